import Derived.Test.YtggcgnfockpgmaaGreatDoorJ3
import Derived.Test.YtggcgnfockpgmaaGreatDoorK5
import Derived.Test.YtggcgnfockpgmaaGreatDoorK1
import Derived.Test.YtggcgnfockpgmaaGreatDoorJ7
import Derived.Deep.RegionHeld3
import Derived.Test.YtggcgnfockpgmaaGreatDoorK4
import Derived.Test.YtggcgnfockpgmaaGreatDoorP5
import Derived.Test.YtggcgnfockpgmaaGreatDoorJB
import Derived.Test.YtggcgnfockpgmaaGreatDoorJ9
import Derived.Test.YtggcgnfockpgmaaGreatDoorJ8
import Derived.Test.YtggcgnfockpgmaaGreatDoorV5
import Derived.Test.YtggcgnfockpgmaaGreatDoorW6
import Derived.Test.YtggcgnfockpgmaaGreatDoorCards
import Derived.Test.YtggcgnfockpgmaaGreatDoorTie
import Derived.WalkKit
import Derived.Deep.Slices
import Derived.Deep.Strs
import Derived.ChangeArms
import Derived.OpenVars
import Derived.ProofKit
import Derived.OpenShut
import Derived.ChangeOld
import Derived.LaidMore
import Derived.LaidOnce
import Derived.LaidHandle
import Derived.Deep.DeepHandedRow
import Derived.Deep.DeepWitnessRowRef
import Derived.SevenTiedAt
import Derived.Shelf.Vars
namespace Go.Proofs.YtggcgnfockpgmaaGreatDoor
open Go.RowKit
open T (F2 f2z FilesAt Asc files_below treeOk lt lt_trans')
theorem asc_plan {ms : List M3} (h : planOk ms = true) : AscM ms := by
  have h2 := ((plan_iff ms).1 h).2
  have step : ∀ j, j + 1 < ms.length → lt (ms.getD j m3z).nm (ms.getD (j + 1) m3z).nm = true := fun j hj => by
    have := h2 (j + 1) hj
    unfold stepM at this
    simp only [Bool.and_eq_true, Bool.or_eq_true, decide_eq_true_eq] at this
    rcases this.2 with h | h
    · omega
    · exact h
  intro i j hij
  induction j with
  | zero => omega
  | succ j ih =>
    intro hj
    rcases Nat.lt_or_ge i j with h1 | h1
    · exact lt_trans' (ih h1 (by omega)) (step j hj)
    · obtain rfl : i = j := by omega
      exact step i hj
theorem asc_nil : AscM [] := fun _ _ _ h => absurd h (Nat.not_lt_zero _)
theorem isPT_asc {fs : List F2} {ms : List M3} (h : IsPT fs ms) : AscM ms := by
  rcases h with ⟨_, rfl⟩ | ⟨_, _, rfl⟩ | ⟨_, i, hi, hn, ks, ok, hp, hr⟩
  · exact asc_nil
  · exact asc_nil
  · rcases hr with ⟨rfl, _, rfl⟩ | ⟨_, rfl⟩
    · exact asc_plan (hp.1 rfl).1
    · exact asc_nil
/-- A name is once in a plan. -/
theorem ascM_once {ms : List M3} (hm : AscM ms) {i j : Nat} (hi : i < ms.length) (hj : j < ms.length) (e : (ms.getD i m3z).nm = (ms.getD j m3z).nm) : i = j := by
  rcases Nat.lt_trichotomy i j with h1 | h1 | h1
  · have := hm i j h1 hj
    rw [e, T.lt_irrefl'] at this; cases this
  · exact h1
  · have := hm j i h1 hi
    rw [e, T.lt_irrefl'] at this; cases this
end Go.Proofs.YtggcgnfockpgmaaGreatDoor
namespace Go.Proofs.YtggcgnfockpgmaaGreatDoor
open Go.RowKit
open T (F2 f2z FilesAt Asc files_below treeOk lt lt_trans')
theorem rzN {w u : World} {v : Value} (hb : Below (w.heap.size + 2) ((w.alloc (.cells #[v] 31)).alloc (.cells #[.string ⟨#[]⟩, .string ⟨#[]⟩, .string ⟨#[]⟩] 48)) u) :
    (u.cell? ⟨w.heap.size + 1, 0, none⟩ = some (.string ⟨#[]⟩) ∧ u.cell? ⟨w.heap.size + 1, 1, none⟩ = some (.string ⟨#[]⟩) ∧ u.cell? ⟨w.heap.size + 1, 2, none⟩ = some (.string ⟨#[]⟩)) ∧ u.frozen? ⟨w.heap.size + 1, 0, none⟩ = false ∧ u.frozen? ⟨w.heap.size + 1, 1, none⟩ = false ∧ u.frozen? ⟨w.heap.size + 1, 2, none⟩ = false := by
  have c : ∀ b j, b < w.heap.size + 2 → u.cell? ⟨b, j, none⟩ = ((w.alloc (.cells #[v] 31)).alloc (.cells #[.string ⟨#[]⟩, .string ⟨#[]⟩, .string ⟨#[]⟩] 48)).cell? ⟨b, j, none⟩ := fun b j h => hb.cell (by exact h)
  have f : ∀ b j, b < w.heap.size + 2 → u.frozen? ⟨b, j, none⟩ = ((w.alloc (.cells #[v] 31)).alloc (.cells #[.string ⟨#[]⟩, .string ⟨#[]⟩, .string ⟨#[]⟩] 48)).frozen? ⟨b, j, none⟩ := fun b j h => hb.frozen (by exact h)
  rw [c _ _ (by omega), c _ _ (by omega), c _ _ (by omega), f _ _ (by omega), f _ _ (by omega), f _ _ (by omega)]
  simp [go_sem]
/-- What l4Make answers. -/
def Is16 (fs : List F2) (nm : ByteArray) (e : Ending) : Prop := ∃ ms, IsPT fs ms ∧ Is42 ms nm e
set_option maxHeartbeats 2000000 in
theorem c16 (a : Option Addr) (cap : Nat) (fs : List F2) (nm : ByteArray) (w : World) (hl : fs.length ≤ 1048576) (hs : ∀ i, (fs.getD i f2z).le 1048576) (hat : FilesAt w a fs) :
    Calls Tryz.prog 16 #[.agg #[.slice a fs.length cap], .string nm] w fun e w' => Is16 fs nm e ∧ Below w.heap.size w w' := by
  have h33 := fun u (hb : Below w.heap.size w u) => c33 a cap fs u hl hs (files_below hat hb)
  have hB0 : ∀ o1 o2, Below w.heap.size w ((w.alloc o1).alloc o2) := fun o1 o2 => ((Below.refl _ _).alloc (Nat.le_refl _) _).alloc (by simp) _
  go_enter Tryz.func16, Tryz.ntmps16
  go_wp2_with fail
  refine (h33 _ (hB0 _ _)).mono ?_
  rintro e w1 ⟨⟨ms, a1, cap1, rfl, hm1, hpt⟩, hb1⟩
  have hB1 : Below w.heap.size w w1 := (hB0 _ _).trans (hb1.mono (by simp; omega))
  have hx1 : Below (w.heap.size + 2) ((w.alloc (.cells #[.slice a fs.length cap] 31)).alloc (.cells #[.string ⟨#[]⟩, .string ⟨#[]⟩, .string ⟨#[]⟩] 48)) w1 := by have h := hb1; simp at h; exact h
  obtain ⟨⟨z0, z1, z2⟩, y0, y1, y2⟩ := rzN hx1
  have hlm := isPT_len hpt
  obtain ⟨b, off, hc⟩ := mks_some hm1
  have HC : Hid (ms = [] ∨ (a1 = some ⟨b, off, none⟩ ∧ b < w1.heap.size ∧ ∀ i, i < ms.length → w1.cell? ⟨b, off + i * 3, none⟩ = some (.string (ms.getD i m3z).nm) ∧ w1.cell? ⟨b, off + i * 3 + 1, none⟩ = some (.string (ms.getD i m3z).tl) ∧ w1.cell? ⟨b, off + i * 3 + 2, none⟩ = some (.string (ms.getD i m3z).ar))) := hc
  have HP : Hid (IsPT fs ms) := hpt
  clear hc hm1 hpt h33 hb1 hx1 hat hs
  go_wp2_with fail
  go_loop [7] (fun i => ∃ k : Nat, k ≤ ms.length ∧ i = .int .i64 k ∧ Hid (∀ j, j < k → (ms.getD j m3z).nm ≠ nm)) (fun i => ms.length - (intOf i).toNat)
  case atStart => exact ⟨0, Nat.zero_le _, rfl, fun j h => absurd h (Nat.not_lt_zero _)⟩
  case round =>
    obtain ⟨k, hk, rfl, hno⟩ := hrel
    by_cases hlt : k < ms.length
    · rcases HC.out with hss | ⟨ha, hbw, hcell⟩
      · rw [hss] at hlt; exact absurd hlt (Nat.not_lt_zero _)
      subst ha
      obtain ⟨g0, g1, g2⟩ := hcell k hlt
      have HX : Hid (∃ x, x = ms.getD k m3z) := ⟨_, rfl⟩
      obtain ⟨x, hx⟩ := HX.out
      rw [← hx] at g0 g1 g2
      have HXE : Hid (x = ms.getD k m3z) := hx
      clear hcell hx HX
      cases hq : (x.nm.toList == nm.toList)
      · have hno' : Hid (∀ j, j < k + 1 → (ms.getD j m3z).nm ≠ nm) := fun j hj => by
          rcases Nat.lt_or_ge j k with h | h
          · exact hno.out j h
          · obtain rfl : j = k := by omega
            rw [← HXE.out]
            intro e
            rw [e] at hq
            simp at hq
        go_wp2
        go_round
        case rel => exact ⟨k + 1, by omega, by go_num, hno'⟩
        case measure => simp [intOf]; omega
      · have he : x.nm = nm := by
          have := beq_iff_eq.1 hq
          rw [ByteArray.toList_eq, ByteArray.toList_eq] at this
          exact ByteArray.ext (Array.toList_inj.1 this)
        have HI : Hid (Is16 fs nm (.returned (.tuple #[.agg #[.string x.nm, .string x.tl, .string x.ar], .bool true]))) := ⟨ms, HP.out, x, true, rfl, .inl ⟨rfl, k, hlt, HXE.out.symm, he⟩⟩
        clear he
        go_wp2
        have F := set3_at w1 (w.heap.size + 1) 0 (.string x.nm) (.string x.tl) (.string x.ar) _ _ _ z0 z1 z2
        refine bodyPost_ret (v := .tuple #[.agg #[.string x.nm, .string x.tl, .string x.ar], .bool true]) (by simp [results, Tryz.results16, go_sem, F.1, F.2.1, F.2.2]) rfl ⟨HI.out, ?_⟩
        exact ((hB1.setCell (by simp) _).setCell (by simp) _).setCell (by simp) _
    · have HI : Hid (Is16 fs nm (.returned (.tuple #[.agg #[.string ⟨#[]⟩, .string ⟨#[]⟩, .string ⟨#[]⟩], .bool false]))) := ⟨ms, HP.out, ⟨⟨#[]⟩, ⟨#[]⟩, ⟨#[]⟩⟩, false, rfl, .inr ⟨rfl, fun j hj => hno.out j (by omega)⟩⟩
      go_wp2
      have F := set3_at w1 (w.heap.size + 1) 0 (.string ⟨#[]⟩) (.string ⟨#[]⟩) (.string ⟨#[]⟩) _ _ _ z0 z1 z2
      refine bodyPost_ret (v := .tuple #[.agg #[.string ⟨#[]⟩, .string ⟨#[]⟩, .string ⟨#[]⟩], .bool false]) (by simp [results, Tryz.results16, go_sem, F.1, F.2.1, F.2.2]) rfl ⟨HI.out, ?_⟩
      exact ((hB1.setCell (by simp) _).setCell (by simp) _).setCell (by simp) _
end Go.Proofs.YtggcgnfockpgmaaGreatDoor
namespace Go.Proofs.YtggcgnfockpgmaaGreatDoor
open Go.RowKit
open T (F2 f2z FilesAt Asc files_below treeOk)
/-- What l4Thing answers. -/
def Is18 (fs : List F2) (nm : ByteArray) (e : Ending) : Prop := ∃ r, e = .returned (.bool r) ∧ ((∃ i, i < fs.length ∧ (fs.getD i f2z).nm = nm) ∧ r = true ∨ ∃ ms, IsPT fs ms ∧ Is44 fs ms nm e)
set_option maxHeartbeats 2000000 in
theorem c18 (a : Option Addr) (cap : Nat) (fs : List F2) (nm : ByteArray) (w : World) (hl : fs.length ≤ 1048576) (hs : ∀ i, (fs.getD i f2z).le 1048576) (hat : FilesAt w a fs) :
    Calls Tryz.prog 18 #[.agg #[.slice a fs.length cap], .string nm] w fun e w' => Is18 fs nm e ∧ Below w.heap.size w w' := by
  have hB0 : ∀ o1, Below w.heap.size w (w.alloc o1) := fun o1 => (Below.refl _ _).alloc (Nat.le_refl _) _
  have h34 := fun u (hb : Below w.heap.size w u) => T.c34 a cap fs nm u hl (files_below hat hb)
  have h16 := fun u (hb : Below w.heap.size w u) => c16 a cap fs nm u hl hs (files_below hat hb)
  clear hat hs
  go_enter Tryz.func18, Tryz.ntmps18
  go_wp2_with fail
  refine (h34 _ (hB0 _)).mono ?_
  rintro e w1 ⟨⟨r, rfl, hr⟩, hb1⟩
  have hB1 : Below w.heap.size w w1 := (hB0 _).trans (hb1.mono (by simp))
  have t0 : w1.cell? ⟨w.heap.size, 0, none⟩ = some (.slice a fs.length cap) := (hb1.cell (p := ⟨w.heap.size, 0, none⟩) (by simp)).trans (by simp [go_sem])
  clear hb1 h34
  rcases hr with ⟨rfl, hf⟩ | ⟨i, rfl, hi, hn⟩
  · have HF : Hid (Free fs nm) := hf
    clear hf
    go_wp2_with fail
    refine (h16 _ hB1).mono ?_
    rintro e w2 ⟨⟨ms, hpt, x, g, rfl, hx⟩, hb2⟩
    have hB2 : Below w.heap.size w w2 := hB1.trans (hb2.mono hB1.size)
    have HI : Hid (Is18 fs nm (.returned (.bool g))) := ⟨g, rfl, .inr ⟨ms, hpt, g, rfl, by
      rcases hx with ⟨rfl, i, hi, rfl, hn⟩ | ⟨rfl, hf⟩
      · exact ⟨fun _ c => c.2 i hi hn, fun _ => rfl⟩
      · exact ⟨(fun h => by cases h), fun c => absurd ⟨HF.out, hf⟩ c⟩⟩⟩
    clear hx h16
    go_wp2
    go_ret
    first
      | exact ⟨HI.out, hB2⟩
      | exact ⟨HI.out, hB2.alloc hB2.size _⟩
  · have HI : Hid (Is18 fs nm (.returned (.bool true))) := ⟨true, rfl, .inl ⟨⟨i, hi, hn⟩, rfl⟩⟩
    clear h16 hn
    go_wp2
    go_ret
    exact ⟨HI.out, hB1⟩
end Go.Proofs.YtggcgnfockpgmaaGreatDoor
namespace Go.Proofs.YtggcgnfockpgmaaGreatDoor
open Go.RowKit
open T (F2 f2z FilesAt Asc files_below treeOk)
/-- What l4Plain answers where no make has the name. -/
def Is17 (fs : List F2) (nm : ByteArray) (e : Ending) : Prop := ∃ (c : Int) (t : ByteArray) (k : Bool), e = .returned (.tuple #[.agg #[.int .i64 c, .string t], .bool k]) ∧ ((c = 0 ∧ ∃ i, i < fs.length ∧ (fs.getD i f2z).nm = nm ∧ t = (fs.getD i f2z).tx) ∨ (Free fs nm ∧ ∃ ms, IsPT fs ms ∧ (FreeM ms nm → c = 4 ∧ t = nm)))
set_option maxHeartbeats 2000000 in
theorem c17 (a : Option Addr) (cap : Nat) (fs : List F2) (nm : ByteArray) (w : World) (hl : fs.length ≤ 1048576) (hs : ∀ i, (fs.getD i f2z).le 1048576) (hat : FilesAt w a fs) :
    Calls Tryz.prog 17 #[.agg #[.slice a fs.length cap], .string nm] w fun e w' => Is17 fs nm e ∧ Below w.heap.size w w' := by
  have hB0 : ∀ o1 o2, Below w.heap.size w ((w.alloc o1).alloc o2) := fun o1 o2 => ((Below.refl _ _).alloc (Nat.le_refl _) _).alloc (by simp) _
  have h34 := fun u (hb : Below w.heap.size w u) => T.c34 a cap fs nm u hl (files_below hat hb)
  have h16 := fun u (hb : Below w.heap.size w u) => c16 a cap fs nm u hl hs (files_below hat hb)
  obtain ⟨b, off, hc⟩ := T.files_some hat
  clear hat hs
  go_enter Tryz.func17, Tryz.ntmps17
  go_wp2_with fail
  refine (h34 _ (hB0 _ _)).mono ?_
  rintro e w1 ⟨⟨r, rfl, hr⟩, hb1⟩
  have hB1 : Below w.heap.size w w1 := (hB0 _ _).trans (hb1.mono (by simp; omega))
  have hx1 : Below (w.heap.size + 2) ((w.alloc (.cells #[.slice a fs.length cap] 31)).alloc (.cells #[.int .i64 0, .string ⟨#[]⟩] 50)) w1 := by have h := hb1; simp at h; exact h
  obtain ⟨t0, ⟨z0, z1⟩, y0, y1⟩ := rzU hx1
  have hz1 : w.heap.size + 1 < w1.heap.size := by have := hx1.size; simp at this; omega
  clear hb1 h34 hx1 hB0
  rcases hr with ⟨rfl, hf⟩ | ⟨i, rfl, hi, hn⟩
  · have HF : Hid (Free fs nm) := hf
    clear hf hc
    go_wp2_with fail
    refine (h16 _ hB1).mono ?_
    rintro e w2 ⟨⟨ms, hpt, x, g, rfl, hx⟩, hb2⟩
    have hB2 : Below w.heap.size w w2 := hB1.trans (hb2.mono hB1.size)
    have HR : Hid (∀ (c : Int) (t : ByteArray) (k : Bool), (g = false → c = 4 ∧ t = nm) → Is17 fs nm (.returned (.tuple #[.agg #[.int .i64 c, .string t], .bool k]))) := fun c t k h => ⟨c, t, k, rfl, .inr ⟨HF.out, ms, hpt, fun hfm => h (by
      rcases hx with ⟨_, i, hi, rfl, hn⟩ | ⟨h, _⟩
      · exact absurd hn (hfm i hi)
      · exact h)⟩⟩
    have u0 := (hb2.cell (p := ⟨w.heap.size + 1, 0, none⟩) (by exact hz1)).trans z0
    have u1 := (hb2.cell (p := ⟨w.heap.size + 1, 1, none⟩) (by exact hz1)).trans z1
    have g0 := (hb2.frozen (p := ⟨w.heap.size + 1, 0, none⟩) (by exact hz1)).trans y0
    have g1 := (hb2.frozen (p := ⟨w.heap.size + 1, 1, none⟩) (by exact hz1)).trans y1
    have hz2 : w.heap.size + 1 < w2.heap.size := Nat.lt_of_lt_of_le hz1 hb2.size
    clear hx h16 z0 z1 y0 y1 hb2 t0 hpt
    cases g
    · go_wp2
      have F := set2_at' w2 (w.heap.size + 1) (.int .i64 4) (.string nm) _ _ u0 u1
      have hBU : Below w.heap.size w ((w2.setCell ⟨w.heap.size + 1, 0, none⟩ (.int .i64 4)).setCell ⟨w.heap.size + 1, 1, none⟩ (.string nm)) := (hB2.setCell (by simp) _).setCell (by simp) _
      have hszU : w.heap.size + 1 < ((w2.setCell ⟨w.heap.size + 1, 0, none⟩ (.int .i64 4)).setCell ⟨w.heap.size + 1, 1, none⟩ (.string nm)).heap.size := by simpa using hz2
      generalize ((w2.setCell ⟨w.heap.size + 1, 0, none⟩ (.int .i64 4)).setCell ⟨w.heap.size + 1, 1, none⟩ (.string nm)) = U at *
      have F1 := fun o => (cell_al hszU 0 o).trans F.1
      have F2 := fun o => (cell_al hszU 1 o).trans F.2
      refine bodyPost_ret (v := .tuple #[.agg #[.int .i64 4, .string nm], .bool true]) (by simp [results, Tryz.results17, go_sem, F1, F2]) rfl ⟨HR.out _ _ _ (fun _ => ⟨rfl, rfl⟩), ?_⟩
      exact hBU.alloc hBU.size _
    · go_wp2
      have F := set2_at' w2 (w.heap.size + 1) (.int .i64 0) (.string ⟨#[]⟩) _ _ u0 u1
      have hBU : Below w.heap.size w ((w2.setCell ⟨w.heap.size + 1, 0, none⟩ (.int .i64 0)).setCell ⟨w.heap.size + 1, 1, none⟩ (.string ⟨#[]⟩)) := (hB2.setCell (by simp) _).setCell (by simp) _
      have hszU : w.heap.size + 1 < ((w2.setCell ⟨w.heap.size + 1, 0, none⟩ (.int .i64 0)).setCell ⟨w.heap.size + 1, 1, none⟩ (.string ⟨#[]⟩)).heap.size := by simpa using hz2
      generalize ((w2.setCell ⟨w.heap.size + 1, 0, none⟩ (.int .i64 0)).setCell ⟨w.heap.size + 1, 1, none⟩ (.string ⟨#[]⟩)) = U at *
      have F1 := fun o => (cell_al hszU 0 o).trans F.1
      have F2 := fun o => (cell_al hszU 1 o).trans F.2
      refine bodyPost_ret (v := .tuple #[.agg #[.int .i64 0, .string ⟨#[]⟩], .bool false]) (by simp [results, Tryz.results17, go_sem, F1, F2]) rfl ⟨HR.out _ _ _ (fun h => by cases h), ?_⟩
      exact hBU.alloc hBU.size _
  · rcases hc with hss | ⟨ha, hbw, hcell⟩
    · rw [hss] at hi; exact absurd hi (Nat.not_lt_zero _)
    subst ha
    have g1 := (hB1.cell (p := ⟨b, off + i * 2 + 1, none⟩) hbw).trans (hcell i hi).2
    have HI : Hid (Is17 fs nm (.returned (.tuple #[.agg #[.int .i64 0, .string (fs.getD i f2z).tx], .bool true]))) := ⟨0, _, true, rfl, .inl ⟨rfl, i, hi, hn, rfl⟩⟩
    generalize (fs.getD i f2z).tx = tx at *
    clear h16 hn hcell
    go_wp2
    have F := set2_at' w1 (w.heap.size + 1) (.int .i64 0) (.string tx) _ _ z0 z1
    refine bodyPost_ret (v := .tuple #[.agg #[.int .i64 0, .string tx], .bool true]) (by simp [results, Tryz.results17, go_sem, F.1, F.2]) rfl ⟨HI.out, ?_⟩
    exact (hB1.setCell (by simp) _).setCell (by simp) _
end Go.Proofs.YtggcgnfockpgmaaGreatDoor
namespace Go.Proofs.YtggcgnfockpgmaaGreatDoor
open Go.RowKit
open T (F2 f2z FilesAt Asc files_below treeOk)
/-- There is a thing. -/
def Thing (fs : List F2) (ms : List M3) (nm : ByteArray) : Prop := ¬ (Free fs nm ∧ FreeM ms nm)
/-- What a name comes to that is not made. -/
def Plain (fs : List F2) (nm : ByteArray) (c : Int) (t : ByteArray) : Prop := (c = 0 ∧ ∃ i, i < fs.length ∧ (fs.getD i f2z).nm = nm ∧ t = (fs.getD i f2z).tx) ∨ (c = 4 ∧ t = nm ∧ Free fs nm)
theorem plain_one {fs : List F2} (h : treeOk fs) {nm t t' : ByteArray} {c c' : Int} (p : Plain fs nm c t) (q : Plain fs nm c' t') : c = c' ∧ t = t' := by
  rcases p with ⟨rfl, i, hi, hn, rfl⟩ | ⟨rfl, rfl, hf⟩
  · rcases q with ⟨rfl, j, hj, hk, rfl⟩ | ⟨rfl, rfl, hf⟩
    · obtain rfl := name_once h hi hj (hn.trans hk.symm)
      exact ⟨rfl, rfl⟩
    · exact absurd hn (hf i hi)
  · rcases q with ⟨rfl, j, hj, hk, rfl⟩ | ⟨rfl, rfl, _⟩
    · exact absurd hk (hf j hj)
    · exact ⟨rfl, rfl⟩
def LookStd (fs : List F2) (ms : List M3) (x : L4) : Prop := x.has = true → (Thing fs ms x.nm ↔ x.cd = 0)
/-- A deed stands. -/
def Std (fs : List F2) (ms : List M3) (d : D8) : Prop :=
  (d.made = true ∧ (∃ i, i < ms.length ∧ ms.getD i m3z = d.km ∧ d.km.nm = d.nm) ∧ ∀ k, k < d.ls.length → LookStd fs ms (d.ls.getD k l4z)) ∨ (d.made = false ∧ FreeM ms d.nm ∧ Plain fs d.nm d.cd d.tx)
theorem std_miss {fs : List F2} {ms : List M3} {d : D8} (h : FreeM ms d.nm) (hm : d.made = true) : ¬ Std fs ms d := by
  rintro (⟨_, ⟨i, hi, he, hn⟩, _⟩ | ⟨h1, _⟩)
  · exact h i hi (by rw [he]; exact hn)
  · rw [hm] at h1; cases h1
theorem std_there {fs : List F2} {ms : List M3} {d : D8} {i : Nat} (hi : i < ms.length) (hn : (ms.getD i m3z).nm = d.nm) (hm : d.made = false) : ¬ Std fs ms d := by
  rintro (⟨h1, _⟩ | ⟨_, h2, _⟩)
  · rw [hm] at h1; cases h1
  · exact h2 i hi hn
theorem std_plain {fs : List F2} (ht : treeOk fs) {ms : List M3} {d : D8} {c : Int} {t : ByteArray} (hf : FreeM ms d.nm) (hm : d.made = false) (hp : Plain fs d.nm c t) : Std fs ms d ↔ (d.cd = c ∧ d.tx = t) := by
  constructor
  · rintro (⟨h1, _⟩ | ⟨_, _, h3⟩)
    · rw [hm] at h1; cases h1
    · exact plain_one ht h3 hp
  · rintro ⟨h1, h2⟩
    exact .inr ⟨hm, hf, by rw [h1, h2]; exact hp⟩
/-- A name is once in a plan. -/
theorem ascM_once' {ms : List M3} (hm : AscM ms) {i j : Nat} (hi : i < ms.length) (hj : j < ms.length) (e : (ms.getD i m3z).nm = (ms.getD j m3z).nm) : i = j := by
  rcases Nat.lt_trichotomy i j with h1 | h1 | h1
  · have := hm i j h1 hj
    rw [e, T.lt_irrefl'] at this; cases this
  · exact h1
  · have := hm j i h1 hi
    rw [e, T.lt_irrefl'] at this; cases this
theorem std_made {fs : List F2} {ms : List M3} (ha : AscM ms) {d : D8} {i : Nat} (hi : i < ms.length) (hn : (ms.getD i m3z).nm = d.nm) (hm : d.made = true) (hl : ∀ k, k < d.ls.length → LookStd fs ms (d.ls.getD k l4z)) : Std fs ms d ↔ d.km = ms.getD i m3z := by
  constructor
  · rintro (⟨_, ⟨j, hj, he, hk⟩, _⟩ | ⟨h1, _⟩)
    · have : (ms.getD j m3z).nm = (ms.getD i m3z).nm := by rw [hn, he]; exact hk
      obtain rfl := ascM_once' ha hj hi this
      exact he.symm
    · rw [hm] at h1; cases h1
  · intro h
    exact .inl ⟨hm, ⟨i, hi, h.symm, by rw [h]; exact hn⟩, hl⟩
theorem std_not {fs : List F2} {ms : List M3} {d : D8} (hm : d.made = true) {k : Nat} (hk : k < d.ls.length) (h : ¬ LookStd fs ms (d.ls.getD k l4z)) : ¬ Std fs ms d := by
  rintro (⟨_, _, hl⟩ | ⟨h1, _⟩)
  · exact h (hl k hk)
  · rw [hm] at h1; cases h1
end Go.Proofs.YtggcgnfockpgmaaGreatDoor
namespace Go.Proofs.YtggcgnfockpgmaaGreatDoor
open Go.RowKit
open T (F2 f2z FilesAt Asc files_below treeOk)
/-- What deedStands answers. -/
def Is24 (fs : List F2) (ms : List M3) (d : D8) (e : Ending) : Prop := ∃ r, e = .returned (.bool r) ∧ (r = true ↔ Std fs ms d)
theorem is24_no {fs : List F2} {ms : List M3} {d : D8} (h : ¬ Std fs ms d) : Is24 fs ms d (.returned (.bool false)) := ⟨false, rfl, ⟨fun h => absurd h Bool.false_ne_true, fun k => absurd k h⟩⟩
theorem ba_of_eq {x y : ByteArray} (h : (x.toList == y.toList) = true) : x = y := by
  have := beq_iff_eq.1 h
  rw [ByteArray.toList_eq, ByteArray.toList_eq] at this
  exact ByteArray.ext (Array.toList_inj.1 this)
theorem lookStd_no {fs : List F2} {ms : List M3} {x : L4} (h : x.has = false) : LookStd fs ms x := fun k => by rw [h] at k; cases k
theorem ba_iff (x y : ByteArray) : x.toList = y.toList ↔ x = y := ⟨fun h => ba_of_eq (beq_iff_eq.2 h), fun h => by rw [h]⟩
theorem km_iff (x y : M3) : x = y ↔ x.nm.toList = y.nm.toList ∧ x.tl.toList = y.tl.toList ∧ x.ar.toList = y.ar.toList := by
  obtain ⟨a, b, c⟩ := x
  obtain ⟨d, e, f⟩ := y
  rw [ba_iff, ba_iff, ba_iff]
  constructor
  · intro h
    injection h with h1 h2 h3
    exact ⟨h1, h2, h3⟩
  · rintro ⟨rfl, rfl, rfl⟩
    rfl
theorem look_zero {fs : List F2} {ms : List M3} {y : L4} {r : Bool} (hh : y.has = true) (hp : r = true ↔ Thing fs ms y.nm) (hcd : y.cd = 0) : LookStd fs ms y ↔ r = true :=
  ⟨fun h => hp.2 ((h hh).2 hcd), fun h _ => ⟨fun _ => hcd, fun _ => hp.1 h⟩⟩
theorem look_not {fs : List F2} {ms : List M3} {y : L4} {r : Bool} (hh : y.has = true) (hp : r = true ↔ Thing fs ms y.nm) (hcd : y.cd ≠ 0) : LookStd fs ms y ↔ r = false := by
  constructor
  · intro h
    cases r
    · rfl
    · exact absurd ((h hh).1 (hp.1 rfl)) hcd
  · intro h _
    exact ⟨fun k => absurd ((hp.2 k).symm.trans h) (by decide), fun k => absurd k hcd⟩
def SU (w : World) (M : Nat) (a ai : Option Addr) (n cap ci : Nat) (d : D8) (x : M3) (u : World) : Prop :=
  u.cell? ⟨w.heap.size, 0, none⟩ = some (.slice a n cap) ∧ (u.cell? ⟨w.heap.size + 1, 0, none⟩ = some (.string d.nm) ∧ u.cell? ⟨w.heap.size + 1, 1, none⟩ = some (.bool d.made) ∧ u.cell? ⟨w.heap.size + 1, 2, none⟩ = some (.string d.km.nm) ∧ u.cell? ⟨w.heap.size + 1, 3, none⟩ = some (.string d.km.tl) ∧ u.cell? ⟨w.heap.size + 1, 4, none⟩ = some (.string d.km.ar) ∧ u.cell? ⟨w.heap.size + 1, 5, none⟩ = some (.slice ai d.ls.length ci) ∧ u.cell? ⟨w.heap.size + 1, 6, none⟩ = some (.int .i64 d.cd) ∧ u.cell? ⟨w.heap.size + 1, 7, none⟩ = some (.string d.tx)) ∧ (u.cell? ⟨M, 0, none⟩ = some (.string x.nm) ∧ u.cell? ⟨M, 1, none⟩ = some (.string x.tl) ∧ u.cell? ⟨M, 2, none⟩ = some (.string x.ar))
set_option maxHeartbeats 4000000 in
set_option maxRecDepth 100000 in
theorem c24 (a pa ai : Option Addr) (cap pc ci : Nat) (fs : List F2) (ms : List M3) (d : D8) (w : World) (ht : treeOk fs) (hat : FilesAt w a fs) (hlm : ms.length ≤ 300) (hatm : MksAt w pa ms) (hmm : AscM ms) (hld : d.ls.length ≤ 1048576) (hlk : LksAt w ai d.ls) :
    Calls Tryz.prog 24 #[.agg #[.slice a fs.length cap], .slice pa ms.length pc, .agg #[.string d.nm, .bool d.made, .string d.km.nm, .string d.km.tl, .string d.km.ar, .slice ai d.ls.length ci, .int .i64 d.cd, .string d.tx]] w fun e w' => Is24 fs ms d e ∧ Below w.heap.size w w' := by
  have hl := ht.1
  have HT : Hid (treeOk fs) := ht
  have HA : Hid (FilesAt w a fs) := hat
  have HM : Hid (MksAt w pa ms) := hatm
  have HMM : Hid (AscM ms) := hmm
  have HK : Hid (LksAt w ai d.ls) := hlk
  have hB0 : ∀ o1 o2, Below w.heap.size w ((w.alloc o1).alloc o2) := fun o1 o2 => ((Below.refl _ _).alloc (Nat.le_refl _) _).alloc (by simp) _
  have h42 := fun u (hb : Below w.heap.size w u) => c42 pa pc ms d.nm u hlm (mks_below hatm hb) hmm
  clear ht hat hatm hmm hlk
  go_enter Tryz.func24, Tryz.ntmps24
  go_wp2_with fail
  refine (h42 _ (hB0 _ _)).mono ?_
  rintro e w1 ⟨⟨x, g, rfl, hx⟩, hb1⟩
  have hB1 : Below w.heap.size w w1 := (hB0 _ _).trans (hb1.mono (by simp; omega))
  have hx1 : Below (w.heap.size + 2) ((w.alloc (.cells #[.slice a fs.length cap] 31)).alloc (.cells #[.string d.nm, .bool d.made, .string d.km.nm, .string d.km.tl, .string d.km.ar, .slice ai d.ls.length ci, .int .i64 d.cd, .string d.tx] 52)) w1 := by have h := hb1; simp at h; exact h
  have hz1 : w.heap.size + 1 < w1.heap.size := by have := hx1.size; simp at this; omega
  have hc : ∀ b j, b < w.heap.size + 2 → w1.cell? ⟨b, j, none⟩ = ((w.alloc (.cells #[.slice a fs.length cap] 31)).alloc (.cells #[.string d.nm, .bool d.made, .string d.km.nm, .string d.km.tl, .string d.km.ar, .slice ai d.ls.length ci, .int .i64 d.cd, .string d.tx] 52)).cell? ⟨b, j, none⟩ := fun b j h => hx1.cell (by exact h)
  have t0 : w1.cell? ⟨w.heap.size, 0, none⟩ = some (.slice a fs.length cap) := (hc _ _ (by omega)).trans (by simp [go_sem])
  have d0 : w1.cell? ⟨w.heap.size + 1, 0, none⟩ = some (.string d.nm) := (hc _ _ (by omega)).trans (by simp [go_sem])
  have d1 : w1.cell? ⟨w.heap.size + 1, 1, none⟩ = some (.bool d.made) := (hc _ _ (by omega)).trans (by simp [go_sem])
  have d2 : w1.cell? ⟨w.heap.size + 1, 2, none⟩ = some (.string d.km.nm) := (hc _ _ (by omega)).trans (by simp [go_sem])
  have d3 : w1.cell? ⟨w.heap.size + 1, 3, none⟩ = some (.string d.km.tl) := (hc _ _ (by omega)).trans (by simp [go_sem])
  have d4 : w1.cell? ⟨w.heap.size + 1, 4, none⟩ = some (.string d.km.ar) := (hc _ _ (by omega)).trans (by simp [go_sem])
  have d5 : w1.cell? ⟨w.heap.size + 1, 5, none⟩ = some (.slice ai d.ls.length ci) := (hc _ _ (by omega)).trans (by simp [go_sem])
  have d6 : w1.cell? ⟨w.heap.size + 1, 6, none⟩ = some (.int .i64 d.cd) := (hc _ _ (by omega)).trans (by simp [go_sem])
  have d7 : w1.cell? ⟨w.heap.size + 1, 7, none⟩ = some (.string d.tx) := (hc _ _ (by omega)).trans (by simp [go_sem])
  clear hb1 hx1 hc h42 hB0
  have HX : Hid ((g = true ∧ ∃ i, i < ms.length ∧ ms.getD i m3z = x ∧ x.nm = d.nm) ∨ (g = false ∧ ∀ j, j < ms.length → (ms.getD j m3z).nm ≠ d.nm)) := hx
  clear hx
  cases g
  · have hfree : Hid (FreeM ms d.nm) := by
      rcases HX.out with ⟨h, _⟩ | ⟨_, h⟩
      · cases h
      · exact h
    cases hdm : d.made
    · rw [hdm] at d1
      go_wp2_with fail
      have hBU : Below w.heap.size w (w1.alloc (.cells #[.string x.nm, .string x.tl, .string x.ar] 48)) := hB1.alloc hB1.size _
      have hzU : w.heap.size + 1 < (w1.alloc (.cells #[.string x.nm, .string x.tl, .string x.ar] 48)).heap.size := by simp; omega
      have u0 := (cell_al (show w.heap.size < w1.heap.size by omega) 0 (.cells #[.string x.nm, .string x.tl, .string x.ar] 48)).trans t0
      have e0 := (cell_al (show w.heap.size + 1 < w1.heap.size by omega) 0 (.cells #[.string x.nm, .string x.tl, .string x.ar] 48)).trans d0
      have e1 := (cell_al (show w.heap.size + 1 < w1.heap.size by omega) 1 (.cells #[.string x.nm, .string x.tl, .string x.ar] 48)).trans d1
      have e2 := (cell_al (show w.heap.size + 1 < w1.heap.size by omega) 2 (.cells #[.string x.nm, .string x.tl, .string x.ar] 48)).trans d2
      have e3 := (cell_al (show w.heap.size + 1 < w1.heap.size by omega) 3 (.cells #[.string x.nm, .string x.tl, .string x.ar] 48)).trans d3
      have e4 := (cell_al (show w.heap.size + 1 < w1.heap.size by omega) 4 (.cells #[.string x.nm, .string x.tl, .string x.ar] 48)).trans d4
      have e5 := (cell_al (show w.heap.size + 1 < w1.heap.size by omega) 5 (.cells #[.string x.nm, .string x.tl, .string x.ar] 48)).trans d5
      have e6 := (cell_al (show w.heap.size + 1 < w1.heap.size by omega) 6 (.cells #[.string x.nm, .string x.tl, .string x.ar] 48)).trans d6
      have e7 := (cell_al (show w.heap.size + 1 < w1.heap.size by omega) 7 (.cells #[.string x.nm, .string x.tl, .string x.ar] 48)).trans d7
      have m0 : (w1.alloc (.cells #[.string x.nm, .string x.tl, .string x.ar] 48)).cell? ⟨w1.heap.size, 0, none⟩ = some (.string x.nm) := by simp [go_sem]
      have m1 : (w1.alloc (.cells #[.string x.nm, .string x.tl, .string x.ar] 48)).cell? ⟨w1.heap.size, 1, none⟩ = some (.string x.tl) := by simp [go_sem]
      have m2 : (w1.alloc (.cells #[.string x.nm, .string x.tl, .string x.ar] 48)).cell? ⟨w1.heap.size, 2, none⟩ = some (.string x.ar) := by simp [go_sem]
      have hzM : w1.heap.size < (w1.alloc (.cells #[.string x.nm, .string x.tl, .string x.ar] 48)).heap.size := by simp
      generalize (w1.alloc (.cells #[.string x.nm, .string x.tl, .string x.ar] 48)) = U at *
      clear t0 d0 d1 d2 d3 d4 d5 d6 d7
      refine wp_region_held_drew (S := (fun u => u.cell? ⟨w.heap.size, 0, none⟩ = some (.slice a fs.length cap) ∧ u.cell? ⟨w.heap.size + 1, 0, none⟩ = some (.string d.nm) ∧ u.cell? ⟨w.heap.size + 1, 6, none⟩ = some (.int .i64 d.cd) ∧ u.cell? ⟨w.heap.size + 1, 7, none⟩ = some (.string d.tx))) (by kernel_rfl) ?_ (fun hHeld => ?_)
      · ((try dsimp only); go_keep)
      refine wpAnyH_take (i := 0) (oi := { dst := some 24, op := Op.fieldAddr 52 (Operand.tmp 5) 4, type := 0, pos := "l4_want.go:71", after := #[], guard := none }) (v := ?_) rfl (by kernel_rfl) (by kernel_rfl) (by kernel_rfl) (fun _ _ _ h => h) (Or.inl ⟨by rfl, ?_⟩) (by assumption) ?_
      rotate_left
      · intro wq hSw
        (try dsimp only at hSw)
        go_simp
        try with_reducible rfl
      try simp only [Act.put, List.setIfInBounds_toArray, List.set_cons_zero, List.set_cons_succ]
      refine wpAnyH_take (i := 1) (oi := { dst := some 25, op := Op.load 50 (Operand.tmp 24), type := 50, pos := "l4_want.go:71", after := #[{ on := 0, ground := Ground.data }], guard := none }) (v := ?_) rfl (by kernel_rfl) (by kernel_rfl) (by kernel_rfl) (fun _ _ _ h => h) (Or.inl ⟨by rfl, ?_⟩) (by assumption) ?_
      rotate_left
      · intro wq hSw
        (try dsimp only at hSw)
        go_simp
        try with_reducible rfl
      try simp only [Act.put, List.setIfInBounds_toArray, List.set_cons_zero, List.set_cons_succ]
      refine wpAnyH_take (i := 2) (oi := { dst := some 26, op := Op.load 31 (Operand.tmp 3), type := 31, pos := "l4_want.go:71", after := #[], guard := none }) (v := ?_) rfl (by kernel_rfl) (by kernel_rfl) (by kernel_rfl) (fun _ _ _ h => h) (Or.inl ⟨by rfl, ?_⟩) (by assumption) ?_
      rotate_left
      · intro wq hSw
        (try dsimp only at hSw)
        go_simp
        try with_reducible rfl
      try simp only [Act.put, List.setIfInBounds_toArray, List.set_cons_zero, List.set_cons_succ]
      refine wpAnyH_take (i := 3) (oi := { dst := some 27, op := Op.fieldAddr 52 (Operand.tmp 5) 0, type := 0, pos := "l4_want.go:71", after := #[], guard := none }) (v := ?_) rfl (by kernel_rfl) (by kernel_rfl) (by kernel_rfl) (fun _ _ _ h => h) (Or.inl ⟨by rfl, ?_⟩) (by assumption) ?_
      rotate_left
      · intro wq hSw
        (try dsimp only at hSw)
        go_simp
        try with_reducible rfl
      try simp only [Act.put, List.setIfInBounds_toArray, List.set_cons_zero, List.set_cons_succ]
      refine wpAnyH_take (i := 4) (oi := { dst := some 28, op := Op.load 9 (Operand.tmp 27), type := 9, pos := "l4_want.go:71", after := #[{ on := 3, ground := Ground.data }], guard := none }) (v := ?_) rfl (by kernel_rfl) (by kernel_rfl) (by kernel_rfl) (fun _ _ _ h => h) (Or.inl ⟨by rfl, ?_⟩) (by assumption) ?_
      rotate_left
      · intro wq hSw
        (try dsimp only at hSw)
        go_simp
        try with_reducible rfl
      try simp only [Act.put, List.setIfInBounds_toArray, List.set_cons_zero, List.set_cons_succ]
      refine wpAnyH_ready (rs := [5]) (by kernel_rfl) (by simp) ?_
      refine AllReadyH.cons (o := { dst := some 29, op := Op.call { callee := Callee.value (Operand.func 43), args := #[Operand.tmp 26, Operand.tmp 28], argTypes := #[31, 9] }, type := 50, pos := "l4_want.go:71", after := #[{ on := 2, ground := Ground.data }, { on := 4, ground := Ground.data }], guard := none }) rfl (fun K hK => ?_) AllReadyH.nil
      go_simp
      refine (c43 a cap fs d.nm _ hl (files_below HA.out hBU.drew) (T.asc_of HT.out)).mono ?_
      rintro e w2 ⟨⟨c, t, rfl, hp⟩, hb2⟩
      have HP : Hid (Plain fs d.nm c t) := hp
      have HB2 : Hid (Below U.heap.size U w2) := ((Below.refl _ _).drew).trans hb2
      have r0 := (HB2.out.cell (p := ⟨w.heap.size, 0, none⟩) (by show w.heap.size < U.heap.size; omega)).trans u0
      have r1 := (HB2.out.cell (p := ⟨w.heap.size + 1, 0, none⟩) (by exact hzU)).trans e0
      have r2 := (HB2.out.cell (p := ⟨w.heap.size + 1, 6, none⟩) (by exact hzU)).trans e6
      have r3 := (HB2.out.cell (p := ⟨w.heap.size + 1, 7, none⟩) (by exact hzU)).trans e7
      clear hp hb2
      go_wp2_with fail
      clear hHeld
      refine hK.out _ _ ?_ (fun hHeld => ?_)
      · ((try dsimp only); go_keep)
      clear hK K
      try simp only [Act.put, List.setIfInBounds_toArray, List.set_cons_zero, List.set_cons_succ]
      refine wpAnyH_take (i := 6) (oi := { dst := some 30, op := Op.binOp BinOp.eql 50 (Operand.tmp 25) (Operand.tmp 29) 50, type := 4, pos := "l4_want.go:71", after := #[{ on := 1, ground := Ground.data }, { on := 5, ground := Ground.data }], guard := none }) (v := .bool (decide (d.cd = c ∧ d.tx.toList = t.toList))) rfl (by kernel_rfl) (by kernel_rfl) (by kernel_rfl) (fun _ _ _ h => h) (Or.inl ⟨by rfl, ?_⟩) (by assumption) ?_
      · intro wq hSw
        (try dsimp only at hSw)
        go_simp
        by_cases h1 : d.cd = c <;> by_cases h2 : d.tx.toList = t.toList <;> simp [h1, h2]
      try simp only [Act.put, List.setIfInBounds_toArray, List.set_cons_zero, List.set_cons_succ]
      refine wpAnyH_take (i := 7) (oi := { dst := some 6, op := Op.assign (Operand.tmp 30), type := 4, pos := "l4_want.go:71", after := #[{ on := 6, ground := Ground.data }, { on := 5, ground := Ground.chain }, { on := 0, ground := Ground.phase }, { on := 1, ground := Ground.phase }, { on := 2, ground := Ground.phase }, { on := 3, ground := Ground.phase }, { on := 4, ground := Ground.phase }, { on := 5, ground := Ground.phase }, { on := 6, ground := Ground.phase }], guard := none }) (v := ?_) rfl (by kernel_rfl) (by kernel_rfl) (by kernel_rfl) (fun _ _ _ h => h) (Or.inl ⟨by rfl, ?_⟩) (by assumption) ?_
      rotate_left
      · intro wq hSw
        (try dsimp only at hSw)
        go_simp
        try with_reducible rfl
      try simp only [Act.put, List.setIfInBounds_toArray, List.set_cons_zero, List.set_cons_succ]
      refine wpAnyH_done (by kernel_rfl) ?_ _
      have hB2 : Below w.heap.size w w2 := hBU.trans (HB2.out.mono hBU.size)
      have HE : Hid (Std fs ms d ↔ (d.cd = c ∧ d.tx = t)) := std_plain HT.out hfree.out hdm HP.out
      clear hHeld
      go_wp2
      go_ret
      exact ⟨⟨_, rfl, by rw [HE.out, ← ba_iff]; simp⟩, hB2⟩
    · rw [hdm] at d1
      go_wp2
      go_ret
      exact ⟨is24_no (std_miss hfree.out hdm), hB1.alloc hB1.size _⟩
  · have HI : Hid (∃ i, i < ms.length ∧ ms.getD i m3z = x ∧ x.nm = d.nm) := by
      rcases HX.out with ⟨_, h⟩ | ⟨h, _⟩
      · exact h
      · cases h
    cases hdm : d.made
    · rw [hdm] at d1
      go_wp2
      go_ret
      obtain ⟨i, hi, hxi, hxn⟩ := HI.out
      exact ⟨is24_no (std_there hi (by rw [hxi]; exact hxn) hdm), hB1.alloc hB1.size _⟩
    · rw [hdm] at d1
      obtain ⟨b, off, hc⟩ := lks_some HK.out
      have HC : Hid (d.ls = [] ∨ (ai = some ⟨b, off, none⟩ ∧ b < w.heap.size ∧ ∀ i, i < d.ls.length → w.cell? ⟨b, off + i * 4, none⟩ = some (.bool (d.ls.getD i l4z).has) ∧ w.cell? ⟨b, off + i * 4 + 1, none⟩ = some (.string (d.ls.getD i l4z).nm) ∧ w.cell? ⟨b, off + i * 4 + 2, none⟩ = some (.int .i64 (d.ls.getD i l4z).cd) ∧ w.cell? ⟨b, off + i * 4 + 3, none⟩ = some (.string (d.ls.getD i l4z).tx))) := hc
      clear hc
      go_wp2_with fail
      have hBU : Below w.heap.size w (w1.alloc (.cells #[.string x.nm, .string x.tl, .string x.ar] 48)) := hB1.alloc hB1.size _
      have hzU : w.heap.size + 1 < (w1.alloc (.cells #[.string x.nm, .string x.tl, .string x.ar] 48)).heap.size := by simp; omega
      have u0 := (cell_al (show w.heap.size < w1.heap.size by omega) 0 (.cells #[.string x.nm, .string x.tl, .string x.ar] 48)).trans t0
      have e0 := (cell_al (show w.heap.size + 1 < w1.heap.size by omega) 0 (.cells #[.string x.nm, .string x.tl, .string x.ar] 48)).trans d0
      have e1 := (cell_al (show w.heap.size + 1 < w1.heap.size by omega) 1 (.cells #[.string x.nm, .string x.tl, .string x.ar] 48)).trans d1
      have e2 := (cell_al (show w.heap.size + 1 < w1.heap.size by omega) 2 (.cells #[.string x.nm, .string x.tl, .string x.ar] 48)).trans d2
      have e3 := (cell_al (show w.heap.size + 1 < w1.heap.size by omega) 3 (.cells #[.string x.nm, .string x.tl, .string x.ar] 48)).trans d3
      have e4 := (cell_al (show w.heap.size + 1 < w1.heap.size by omega) 4 (.cells #[.string x.nm, .string x.tl, .string x.ar] 48)).trans d4
      have e5 := (cell_al (show w.heap.size + 1 < w1.heap.size by omega) 5 (.cells #[.string x.nm, .string x.tl, .string x.ar] 48)).trans d5
      have e6 := (cell_al (show w.heap.size + 1 < w1.heap.size by omega) 6 (.cells #[.string x.nm, .string x.tl, .string x.ar] 48)).trans d6
      have e7 := (cell_al (show w.heap.size + 1 < w1.heap.size by omega) 7 (.cells #[.string x.nm, .string x.tl, .string x.ar] 48)).trans d7
      have m0 : (w1.alloc (.cells #[.string x.nm, .string x.tl, .string x.ar] 48)).cell? ⟨w1.heap.size, 0, none⟩ = some (.string x.nm) := by simp [go_sem]
      have m1 : (w1.alloc (.cells #[.string x.nm, .string x.tl, .string x.ar] 48)).cell? ⟨w1.heap.size, 1, none⟩ = some (.string x.tl) := by simp [go_sem]
      have m2 : (w1.alloc (.cells #[.string x.nm, .string x.tl, .string x.ar] 48)).cell? ⟨w1.heap.size, 2, none⟩ = some (.string x.ar) := by simp [go_sem]
      have hzM : w1.heap.size < (w1.alloc (.cells #[.string x.nm, .string x.tl, .string x.ar] 48)).heap.size := by simp
      generalize (w1.alloc (.cells #[.string x.nm, .string x.tl, .string x.ar] 48)) = U at *
      clear t0 d0 d1 d2 d3 d4 d5 d6 d7
      go_loopw [34] (fun vi wr => ∃ k : Nat, k ≤ d.ls.length ∧ vi = .int .i64 k ∧ Below U.heap.size U wr ∧ Hid (∀ j, j < k → LookStd fs ms (d.ls.getD j l4z))) (fun vi _ => d.ls.length - (intOf vi).toNat)
      case atStart => exact ⟨0, Nat.zero_le _, rfl, Below.refl _ _, fun j h => absurd h (Nat.not_lt_zero _)⟩
      case round =>
        obtain ⟨k, hk, rfl, hb, hdone⟩ := hrel
        have hBr : Below w.heap.size w wr := hBU.trans (hb.mono hBU.size)
        have hzr : U.heap.size ≤ wr.heap.size := hb.size
        by_cases hlt : k < d.ls.length
        · rcases HC.out with hss | ⟨ha, hbw, hcell⟩
          · rw [hss] at hlt; exact absurd hlt (Nat.not_lt_zero _)
          subst ha
          obtain ⟨g0, g1, g2, g3⟩ := hcell k hlt
          have g0 := (hBr.cell (p := ⟨b, off + k * 4, none⟩) hbw).trans g0
          have g1 := (hBr.cell (p := ⟨b, off + k * 4 + 1, none⟩) hbw).trans g1
          have g2 := (hBr.cell (p := ⟨b, off + k * 4 + 2, none⟩) hbw).trans g2
          have g3 := (hBr.cell (p := ⟨b, off + k * 4 + 3, none⟩) hbw).trans g3
          have HN : Hid (¬ LookStd fs ms (d.ls.getD k l4z) → ¬ Std fs ms d) := fun h => std_not hdm hlt h
          have HY : Hid (LookStd fs ms (d.ls.getD k l4z) → ∀ j, j < k + 1 → LookStd fs ms (d.ls.getD j l4z)) := fun h j hj => by
            rcases Nat.lt_or_ge j k with h1 | h1
            · exact hdone.out j h1
            · obtain rfl : j = k := by omega
              exact h
          generalize d.ls.getD k l4z = y at *
          have q0 := (hb.cell (p := ⟨w.heap.size, 0, none⟩) (by show w.heap.size < U.heap.size; omega)).trans u0
          clear hcell
          go_wp2_with fail
          have hBV : Below w.heap.size w (wr.alloc (.cells #[.bool y.has, .string y.nm, .int .i64 y.cd, .string y.tx] 59)) := hBr.alloc hBr.size _
          have hUV : Below U.heap.size U (wr.alloc (.cells #[.bool y.has, .string y.nm, .int .i64 y.cd, .string y.tx] 59)) := hb.alloc hb.size _
          have hzV : wr.heap.size < (wr.alloc (.cells #[.bool y.has, .string y.nm, .int .i64 y.cd, .string y.tx] 59)).heap.size := by simp
          have v0 := (cell_al (show w.heap.size < wr.heap.size by omega) 0 (.cells #[.bool y.has, .string y.nm, .int .i64 y.cd, .string y.tx] 59)).trans q0
          have y0 : (wr.alloc (.cells #[.bool y.has, .string y.nm, .int .i64 y.cd, .string y.tx] 59)).cell? ⟨wr.heap.size, 0, none⟩ = some (.bool y.has) := by simp [go_sem]
          have y1 : (wr.alloc (.cells #[.bool y.has, .string y.nm, .int .i64 y.cd, .string y.tx] 59)).cell? ⟨wr.heap.size, 1, none⟩ = some (.string y.nm) := by simp [go_sem]
          have y2 : (wr.alloc (.cells #[.bool y.has, .string y.nm, .int .i64 y.cd, .string y.tx] 59)).cell? ⟨wr.heap.size, 2, none⟩ = some (.int .i64 y.cd) := by simp [go_sem]
          generalize (wr.alloc (.cells #[.bool y.has, .string y.nm, .int .i64 y.cd, .string y.tx] 59)) = V at *
          clear g0 g1 g2 g3 q0
          cases hh : y.has
          · rw [hh] at y0
            have hno : Hid (∀ j, j < k + 1 → LookStd fs ms (d.ls.getD j l4z)) := HY.out (lookStd_no hh)
            refine wp_region_held_drew (S := (fun u => u.cell? ⟨w.heap.size, 0, none⟩ = some (.slice a fs.length cap) ∧ u.cell? ⟨wr.heap.size, 0, none⟩ = some (.bool false) ∧ u.cell? ⟨wr.heap.size, 1, none⟩ = some (.string y.nm) ∧ u.cell? ⟨wr.heap.size, 2, none⟩ = some (.int .i64 y.cd))) (by kernel_rfl) ?_ (fun hHeld => ?_)
            · ((try dsimp only); go_keep)
            refine wpAnyH_take (i := 0) (oi := { dst := some 38, op := Op.fieldAddr 59 (Operand.tmp 10) 0, type := 0, pos := "l4_want.go:74", after := #[], guard := none }) (v := ?_) rfl (by kernel_rfl) (by kernel_rfl) (by kernel_rfl) (fun _ _ _ h => h) (Or.inl ⟨by rfl, ?_⟩) (by assumption) ?_
            rotate_left
            · intro wq hSw
              (try dsimp only at hSw)
              go_simp
              try with_reducible rfl
            try simp only [Act.put, List.setIfInBounds_toArray, List.set_cons_zero, List.set_cons_succ]
            refine wpAnyH_take (i := 1) (oi := { dst := some 39, op := Op.load 4 (Operand.tmp 38), type := 4, pos := "l4_want.go:74", after := #[{ on := 0, ground := Ground.data }], guard := none }) (v := ?_) rfl (by kernel_rfl) (by kernel_rfl) (by kernel_rfl) (fun _ _ _ h => h) (Or.inl ⟨by rfl, ?_⟩) (by assumption) ?_
            rotate_left
            · intro wq hSw
              (try dsimp only at hSw)
              go_simp
              try with_reducible rfl
            try simp only [Act.put, List.setIfInBounds_toArray, List.set_cons_zero, List.set_cons_succ]
            refine wpAnyH_take (i := 2) (oi := { dst := some 40, op := Op.move (Operand.tmp 39), type := 4, pos := "l4_want.go:74", after := #[{ on := 1, ground := Ground.data }], guard := none }) (v := ?_) rfl (by kernel_rfl) (by kernel_rfl) (by kernel_rfl) (fun _ _ _ h => h) (Or.inl ⟨by rfl, ?_⟩) (by assumption) ?_
            rotate_left
            · intro wq hSw
              (try dsimp only at hSw)
              go_simp
              try with_reducible rfl
            try simp only [Act.put, List.setIfInBounds_toArray, List.set_cons_zero, List.set_cons_succ]
            refine wpAnyH_take (i := 3) (oi := { dst := some 41, op := Op.load 31 (Operand.tmp 3), type := 31, pos := "l4_want.go:74", after := #[{ on := 2, ground := Ground.guard }], guard := some (2, true) }) (v := undef) rfl (by kernel_rfl) (by kernel_rfl) (by kernel_rfl) (fun _ _ _ h => h) (Or.inr ⟨by rfl, rfl⟩) (by assumption) ?_
            try simp only [Act.put, List.setIfInBounds_toArray, List.set_cons_zero, List.set_cons_succ]
            refine wpAnyH_take (i := 4) (oi := { dst := some 42, op := Op.move (Operand.tmp 1), type := 63, pos := "l4_want.go:74", after := #[{ on := 2, ground := Ground.guard }], guard := some (2, true) }) (v := undef) rfl (by kernel_rfl) (by kernel_rfl) (by kernel_rfl) (fun _ _ _ h => h) (Or.inr ⟨by rfl, rfl⟩) (by assumption) ?_
            try simp only [Act.put, List.setIfInBounds_toArray, List.set_cons_zero, List.set_cons_succ]
            refine wpAnyH_take (i := 5) (oi := { dst := some 43, op := Op.fieldAddr 59 (Operand.tmp 10) 1, type := 0, pos := "l4_want.go:74", after := #[{ on := 2, ground := Ground.guard }], guard := some (2, true) }) (v := undef) rfl (by kernel_rfl) (by kernel_rfl) (by kernel_rfl) (fun _ _ _ h => h) (Or.inr ⟨by rfl, rfl⟩) (by assumption) ?_
            try simp only [Act.put, List.setIfInBounds_toArray, List.set_cons_zero, List.set_cons_succ]
            refine wpAnyH_take (i := 6) (oi := { dst := some 44, op := Op.load 9 (Operand.tmp 43), type := 9, pos := "l4_want.go:74", after := #[{ on := 5, ground := Ground.data }, { on := 2, ground := Ground.guard }], guard := some (2, true) }) (v := undef) rfl (by kernel_rfl) (by kernel_rfl) (by kernel_rfl) (fun _ _ _ h => h) (Or.inr ⟨by rfl, rfl⟩) (by assumption) ?_
            try simp only [Act.put, List.setIfInBounds_toArray, List.set_cons_zero, List.set_cons_succ]
            refine wpAnyH_take (i := 7) (oi := { dst := some 45, op := Op.call { callee := Callee.value (Operand.func 44), args := #[Operand.tmp 41, Operand.tmp 42, Operand.tmp 44], argTypes := #[31, 63, 9] }, type := 4, pos := "l4_want.go:74", after := #[{ on := 3, ground := Ground.data }, { on := 4, ground := Ground.data }, { on := 6, ground := Ground.data }, { on := 2, ground := Ground.chain }, { on := 2, ground := Ground.guard }], guard := some (2, true) }) (v := undef) rfl (by kernel_rfl) (by kernel_rfl) (by kernel_rfl) (fun _ _ _ h => h) (Or.inr ⟨by rfl, rfl⟩) (by assumption) ?_
            try simp only [Act.put, List.setIfInBounds_toArray, List.set_cons_zero, List.set_cons_succ]
            refine wpAnyH_take (i := 8) (oi := { dst := some 46, op := Op.fieldAddr 59 (Operand.tmp 10) 2, type := 0, pos := "l4_want.go:74", after := #[{ on := 2, ground := Ground.guard }], guard := some (2, true) }) (v := undef) rfl (by kernel_rfl) (by kernel_rfl) (by kernel_rfl) (fun _ _ _ h => h) (Or.inr ⟨by rfl, rfl⟩) (by assumption) ?_
            try simp only [Act.put, List.setIfInBounds_toArray, List.set_cons_zero, List.set_cons_succ]
            refine wpAnyH_take (i := 9) (oi := { dst := some 47, op := Op.fieldAddr 50 (Operand.tmp 46) 0, type := 0, pos := "l4_want.go:74", after := #[{ on := 8, ground := Ground.data }, { on := 2, ground := Ground.guard }], guard := some (2, true) }) (v := undef) rfl (by kernel_rfl) (by kernel_rfl) (by kernel_rfl) (fun _ _ _ h => h) (Or.inr ⟨by rfl, rfl⟩) (by assumption) ?_
            try simp only [Act.put, List.setIfInBounds_toArray, List.set_cons_zero, List.set_cons_succ]
            refine wpAnyH_take (i := 10) (oi := { dst := some 48, op := Op.load 3 (Operand.tmp 47), type := 3, pos := "l4_want.go:74", after := #[{ on := 9, ground := Ground.data }, { on := 2, ground := Ground.guard }], guard := some (2, true) }) (v := undef) rfl (by kernel_rfl) (by kernel_rfl) (by kernel_rfl) (fun _ _ _ h => h) (Or.inr ⟨by rfl, rfl⟩) (by assumption) ?_
            try simp only [Act.put, List.setIfInBounds_toArray, List.set_cons_zero, List.set_cons_succ]
            refine wpAnyH_take (i := 11) (oi := { dst := some 49, op := Op.binOp BinOp.eql 3 (Operand.tmp 48) (Operand.const (Value.int IntKind.i64 0)) 3, type := 4, pos := "l4_want.go:74", after := #[{ on := 10, ground := Ground.data }, { on := 2, ground := Ground.guard }], guard := some (2, true) }) (v := undef) rfl (by kernel_rfl) (by kernel_rfl) (by kernel_rfl) (fun _ _ _ h => h) (Or.inr ⟨by rfl, rfl⟩) (by assumption) ?_
            try simp only [Act.put, List.setIfInBounds_toArray, List.set_cons_zero, List.set_cons_succ]
            refine wpAnyH_take (i := 12) (oi := { dst := some 50, op := Op.binOp BinOp.neq 4 (Operand.tmp 45) (Operand.tmp 49) 4, type := 4, pos := "l4_want.go:74", after := #[{ on := 7, ground := Ground.data }, { on := 11, ground := Ground.data }, { on := 2, ground := Ground.guard }], guard := some (2, true) }) (v := undef) rfl (by kernel_rfl) (by kernel_rfl) (by kernel_rfl) (fun _ _ _ h => h) (Or.inr ⟨by rfl, rfl⟩) (by assumption) ?_
            try simp only [Act.put, List.setIfInBounds_toArray, List.set_cons_zero, List.set_cons_succ]
            refine wpAnyH_take (i := 13) (oi := { dst := some 51, op := Op.pick (Operand.tmp 40) (Operand.tmp 50) (Operand.const (Value.bool false)), type := 4, pos := "l4_want.go:74", after := #[{ on := 2, ground := Ground.data }, { on := 12, ground := Ground.data }], guard := none }) (v := ?_) rfl (by kernel_rfl) (by kernel_rfl) (by kernel_rfl) (fun _ _ _ h => h) (Or.inl ⟨by rfl, ?_⟩) (by assumption) ?_
            rotate_left
            · intro wq hSw
              (try dsimp only at hSw)
              go_simp
              try with_reducible rfl
            try simp only [Act.put, List.setIfInBounds_toArray, List.set_cons_zero, List.set_cons_succ]
            refine wpAnyH_done (by kernel_rfl) ?_ _
            clear hHeld
            go_wp2
            go_roundw
            case rel => exact ⟨k + 1, by omega, by go_num, hUV.drew, hno⟩
            case measure => simp [intOf]; omega
          · rw [hh] at y0
            refine wp_region_held_drew (S := (fun u => u.cell? ⟨w.heap.size, 0, none⟩ = some (.slice a fs.length cap) ∧ u.cell? ⟨wr.heap.size, 0, none⟩ = some (.bool true) ∧ u.cell? ⟨wr.heap.size, 1, none⟩ = some (.string y.nm) ∧ u.cell? ⟨wr.heap.size, 2, none⟩ = some (.int .i64 y.cd))) (by kernel_rfl) ?_ (fun hHeld => ?_)
            · ((try dsimp only); go_keep)
            refine wpAnyH_take (i := 0) (oi := { dst := some 38, op := Op.fieldAddr 59 (Operand.tmp 10) 0, type := 0, pos := "l4_want.go:74", after := #[], guard := none }) (v := ?_) rfl (by kernel_rfl) (by kernel_rfl) (by kernel_rfl) (fun _ _ _ h => h) (Or.inl ⟨by rfl, ?_⟩) (by assumption) ?_
            rotate_left
            · intro wq hSw
              (try dsimp only at hSw)
              go_simp
              try with_reducible rfl
            try simp only [Act.put, List.setIfInBounds_toArray, List.set_cons_zero, List.set_cons_succ]
            refine wpAnyH_take (i := 1) (oi := { dst := some 39, op := Op.load 4 (Operand.tmp 38), type := 4, pos := "l4_want.go:74", after := #[{ on := 0, ground := Ground.data }], guard := none }) (v := ?_) rfl (by kernel_rfl) (by kernel_rfl) (by kernel_rfl) (fun _ _ _ h => h) (Or.inl ⟨by rfl, ?_⟩) (by assumption) ?_
            rotate_left
            · intro wq hSw
              (try dsimp only at hSw)
              go_simp
              try with_reducible rfl
            try simp only [Act.put, List.setIfInBounds_toArray, List.set_cons_zero, List.set_cons_succ]
            refine wpAnyH_take (i := 2) (oi := { dst := some 40, op := Op.move (Operand.tmp 39), type := 4, pos := "l4_want.go:74", after := #[{ on := 1, ground := Ground.data }], guard := none }) (v := ?_) rfl (by kernel_rfl) (by kernel_rfl) (by kernel_rfl) (fun _ _ _ h => h) (Or.inl ⟨by rfl, ?_⟩) (by assumption) ?_
            rotate_left
            · intro wq hSw
              (try dsimp only at hSw)
              go_simp
              try with_reducible rfl
            try simp only [Act.put, List.setIfInBounds_toArray, List.set_cons_zero, List.set_cons_succ]
            refine wpAnyH_take (i := 3) (oi := { dst := some 41, op := Op.load 31 (Operand.tmp 3), type := 31, pos := "l4_want.go:74", after := #[{ on := 2, ground := Ground.guard }], guard := some (2, true) }) (v := ?_) rfl (by kernel_rfl) (by kernel_rfl) (by kernel_rfl) (fun _ _ _ h => h) (Or.inl ⟨by rfl, ?_⟩) (by assumption) ?_
            rotate_left
            · intro wq hSw
              (try dsimp only at hSw)
              go_simp
              try with_reducible rfl
            try simp only [Act.put, List.setIfInBounds_toArray, List.set_cons_zero, List.set_cons_succ]
            refine wpAnyH_take (i := 4) (oi := { dst := some 42, op := Op.move (Operand.tmp 1), type := 63, pos := "l4_want.go:74", after := #[{ on := 2, ground := Ground.guard }], guard := some (2, true) }) (v := ?_) rfl (by kernel_rfl) (by kernel_rfl) (by kernel_rfl) (fun _ _ _ h => h) (Or.inl ⟨by rfl, ?_⟩) (by assumption) ?_
            rotate_left
            · intro wq hSw
              (try dsimp only at hSw)
              go_simp
              try with_reducible rfl
            try simp only [Act.put, List.setIfInBounds_toArray, List.set_cons_zero, List.set_cons_succ]
            refine wpAnyH_take (i := 5) (oi := { dst := some 43, op := Op.fieldAddr 59 (Operand.tmp 10) 1, type := 0, pos := "l4_want.go:74", after := #[{ on := 2, ground := Ground.guard }], guard := some (2, true) }) (v := ?_) rfl (by kernel_rfl) (by kernel_rfl) (by kernel_rfl) (fun _ _ _ h => h) (Or.inl ⟨by rfl, ?_⟩) (by assumption) ?_
            rotate_left
            · intro wq hSw
              (try dsimp only at hSw)
              go_simp
              try with_reducible rfl
            try simp only [Act.put, List.setIfInBounds_toArray, List.set_cons_zero, List.set_cons_succ]
            refine wpAnyH_take (i := 6) (oi := { dst := some 44, op := Op.load 9 (Operand.tmp 43), type := 9, pos := "l4_want.go:74", after := #[{ on := 5, ground := Ground.data }, { on := 2, ground := Ground.guard }], guard := some (2, true) }) (v := ?_) rfl (by kernel_rfl) (by kernel_rfl) (by kernel_rfl) (fun _ _ _ h => h) (Or.inl ⟨by rfl, ?_⟩) (by assumption) ?_
            rotate_left
            · intro wq hSw
              (try dsimp only at hSw)
              go_simp
              try with_reducible rfl
            try simp only [Act.put, List.setIfInBounds_toArray, List.set_cons_zero, List.set_cons_succ]
            refine wpAnyH_take (i := 8) (oi := { dst := some 46, op := Op.fieldAddr 59 (Operand.tmp 10) 2, type := 0, pos := "l4_want.go:74", after := #[{ on := 2, ground := Ground.guard }], guard := some (2, true) }) (v := ?_) rfl (by kernel_rfl) (by kernel_rfl) (by kernel_rfl) (fun _ _ _ h => h) (Or.inl ⟨by rfl, ?_⟩) (by assumption) ?_
            rotate_left
            · intro wq hSw
              (try dsimp only at hSw)
              go_simp
              try with_reducible rfl
            try simp only [Act.put, List.setIfInBounds_toArray, List.set_cons_zero, List.set_cons_succ]
            refine wpAnyH_take (i := 9) (oi := { dst := some 47, op := Op.fieldAddr 50 (Operand.tmp 46) 0, type := 0, pos := "l4_want.go:74", after := #[{ on := 8, ground := Ground.data }, { on := 2, ground := Ground.guard }], guard := some (2, true) }) (v := ?_) rfl (by kernel_rfl) (by kernel_rfl) (by kernel_rfl) (fun _ _ _ h => h) (Or.inl ⟨by rfl, ?_⟩) (by assumption) ?_
            rotate_left
            · intro wq hSw
              (try dsimp only at hSw)
              go_simp
              try with_reducible rfl
            try simp only [Act.put, List.setIfInBounds_toArray, List.set_cons_zero, List.set_cons_succ]
            refine wpAnyH_take (i := 10) (oi := { dst := some 48, op := Op.load 3 (Operand.tmp 47), type := 3, pos := "l4_want.go:74", after := #[{ on := 9, ground := Ground.data }, { on := 2, ground := Ground.guard }], guard := some (2, true) }) (v := ?_) rfl (by kernel_rfl) (by kernel_rfl) (by kernel_rfl) (fun _ _ _ h => h) (Or.inl ⟨by rfl, ?_⟩) (by assumption) ?_
            rotate_left
            · intro wq hSw
              (try dsimp only at hSw)
              go_simp
              try with_reducible rfl
            try simp only [Act.put, List.setIfInBounds_toArray, List.set_cons_zero, List.set_cons_succ]
            refine wpAnyH_take (i := 11) (oi := { dst := some 49, op := Op.binOp BinOp.eql 3 (Operand.tmp 48) (Operand.const (Value.int IntKind.i64 0)) 3, type := 4, pos := "l4_want.go:74", after := #[{ on := 10, ground := Ground.data }, { on := 2, ground := Ground.guard }], guard := some (2, true) }) (v := ?_) rfl (by kernel_rfl) (by kernel_rfl) (by kernel_rfl) (fun _ _ _ h => h) (Or.inl ⟨by rfl, ?_⟩) (by assumption) ?_
            rotate_left
            · intro wq hSw
              (try dsimp only at hSw)
              go_simp
              try with_reducible rfl
            try simp only [Act.put, List.setIfInBounds_toArray, List.set_cons_zero, List.set_cons_succ]
            refine wpAnyH_ready (rs := [7]) (by kernel_rfl) (by simp) ?_
            refine AllReadyH.cons (o := { dst := some 45, op := Op.call { callee := Callee.value (Operand.func 44), args := #[Operand.tmp 41, Operand.tmp 42, Operand.tmp 44], argTypes := #[31, 63, 9] }, type := 4, pos := "l4_want.go:74", after := #[{ on := 3, ground := Ground.data }, { on := 4, ground := Ground.data }, { on := 6, ground := Ground.data }, { on := 2, ground := Ground.chain }, { on := 2, ground := Ground.guard }], guard := some (2, true) }) rfl (fun K hK => ?_) AllReadyH.nil
            go_simp
            refine (c44 a pa cap pc fs ms y.nm _ hl (files_below HA.out hBV.drew) (T.asc_of HT.out) hlm (mks_below HM.out hBV.drew) HMM.out).mono ?_
            rintro e w2 ⟨⟨r, rfl, hr⟩, hb2⟩
            have HP : Hid (r = true ↔ Thing fs ms y.nm) := hr
            have HB2 : Hid (Below V.heap.size V w2) := ((Below.refl _ _).drew).trans hb2
            have r0 := (HB2.out.cell (p := ⟨w.heap.size, 0, none⟩) (by show w.heap.size < V.heap.size; omega)).trans v0
            have r1 := (HB2.out.cell (p := ⟨wr.heap.size, 0, none⟩) (by exact hzV)).trans y0
            have r2 := (HB2.out.cell (p := ⟨wr.heap.size, 1, none⟩) (by exact hzV)).trans y1
            have r3 := (HB2.out.cell (p := ⟨wr.heap.size, 2, none⟩) (by exact hzV)).trans y2
            clear hr hb2
            go_wp2_with fail
            clear hHeld
            refine hK.out _ _ ?_ (fun hHeld => ?_)
            · ((try dsimp only); go_keep)
            clear hK K
            try simp only [Act.put, List.setIfInBounds_toArray, List.set_cons_zero, List.set_cons_succ]
            refine wpAnyH_take (i := 12) (oi := { dst := some 50, op := Op.binOp BinOp.neq 4 (Operand.tmp 45) (Operand.tmp 49) 4, type := 4, pos := "l4_want.go:74", after := #[{ on := 7, ground := Ground.data }, { on := 11, ground := Ground.data }, { on := 2, ground := Ground.guard }], guard := some (2, true) }) (v := ?_) rfl (by kernel_rfl) (by kernel_rfl) (by kernel_rfl) (fun _ _ _ h => h) (Or.inl ⟨by rfl, ?_⟩) (by assumption) ?_
            rotate_left
            · intro wq hSw
              (try dsimp only at hSw)
              go_simp
              try with_reducible rfl
            try simp only [Act.put, List.setIfInBounds_toArray, List.set_cons_zero, List.set_cons_succ]
            refine wpAnyH_take (i := 13) (oi := { dst := some 51, op := Op.pick (Operand.tmp 40) (Operand.tmp 50) (Operand.const (Value.bool false)), type := 4, pos := "l4_want.go:74", after := #[{ on := 2, ground := Ground.data }, { on := 12, ground := Ground.data }], guard := none }) (v := ?_) rfl (by kernel_rfl) (by kernel_rfl) (by kernel_rfl) (fun _ _ _ h => h) (Or.inl ⟨by rfl, ?_⟩) (by assumption) ?_
            rotate_left
            · intro wq hSw
              (try dsimp only at hSw)
              go_simp
              try with_reducible rfl
            try simp only [Act.put, List.setIfInBounds_toArray, List.set_cons_zero, List.set_cons_succ]
            refine wpAnyH_done (by kernel_rfl) ?_ _
            have hB2 : Below w.heap.size w w2 := hBV.trans (HB2.out.mono hBV.size)
            have hU2 : Below U.heap.size U w2 := hUV.trans (HB2.out.mono hUV.size)
            cases hz : (y.cd == 0)
            · have hcd : y.cd ≠ 0 := fun h => by rw [h] at hz; cases hz
              have HG : Hid (LookStd fs ms y ↔ r = false) := look_not hh HP.out hcd
              clear hHeld hz
              cases r
              · have hno : Hid (∀ j, j < k + 1 → LookStd fs ms (d.ls.getD j l4z)) := HY.out (HG.out.2 rfl)
                go_wp2
                go_roundw
                case rel => exact ⟨k + 1, by omega, by go_num, hU2, hno⟩
                case measure => simp [intOf]; omega
              · have hn : Hid (Is24 fs ms d (.returned (.bool false))) := is24_no (HN.out fun h => by have := HG.out.1 h; cases this)
                go_wp2
                go_ret
                exact ⟨hn.out, hB2⟩
            · have hcd : y.cd = 0 := beq_iff_eq.1 hz
              have HG : Hid (LookStd fs ms y ↔ r = true) := look_zero hh HP.out hcd
              clear hHeld hz
              cases r
              · have hn : Hid (Is24 fs ms d (.returned (.bool false))) := is24_no (HN.out fun h => by have := HG.out.1 h; cases this)
                go_wp2
                go_ret
                exact ⟨hn.out, hB2⟩
              · have hno : Hid (∀ j, j < k + 1 → LookStd fs ms (d.ls.getD j l4z)) := HY.out (HG.out.2 rfl)
                go_wp2
                go_roundw
                case rel => exact ⟨k + 1, by omega, by go_num, hU2, hno⟩
                case measure => simp [intOf]; omega
        · have HE : Hid (Std fs ms d ↔ d.km = x) := by
            obtain ⟨i, hi, hxi, hxn⟩ := HI.out
            have := std_made HMM.out hi (by rw [hxi]; exact hxn) hdm (fun j hj => hdone.out j (by omega))
            rw [hxi] at this
            exact this
          have hc2 := (hb.cell (p := ⟨w.heap.size + 1, 2, none⟩) (by exact hzU)).trans e2
          have hc3 := (hb.cell (p := ⟨w.heap.size + 1, 3, none⟩) (by exact hzU)).trans e3
          have hc4 := (hb.cell (p := ⟨w.heap.size + 1, 4, none⟩) (by exact hzU)).trans e4
          have k0 := (hb.cell (p := ⟨w1.heap.size, 0, none⟩) (by exact hzM)).trans m0
          have k1 := (hb.cell (p := ⟨w1.heap.size, 1, none⟩) (by exact hzM)).trans m1
          have k2 := (hb.cell (p := ⟨w1.heap.size, 2, none⟩) (by exact hzM)).trans m2
          go_wp2
          all_goals go_ret
          all_goals exact ⟨⟨_, rfl, by rw [HE.out, km_iff]; simp [*]⟩, hBr⟩
end Go.Proofs.YtggcgnfockpgmaaGreatDoor
namespace Go.Proofs.YtggcgnfockpgmaaGreatDoor
open Go.RowKit
open T (F2 f2z FilesAt Asc files_below treeOk)
/-- A deed is named and stands in each plan of the tree (there is one). -/
def Dn (fs : List F2) (d : D8) : Prop := nameOk d.nm.data.toList = true ∧ ∀ ms, IsPT fs ms → Std fs ms d
/-- All deeds stand. -/
def StdAll (fs : List F2) (is : List D8) : Prop := treeOk fs ∧ ∀ i, i < is.length → Dn fs (is.getD i d8z)
def IsSt (fs : List F2) (is : List D8) (e : Ending) : Prop := ∃ r, e = .returned (.bool r) ∧ (r = true ↔ StdAll fs is)
set_option maxHeartbeats 4000000 in
set_option maxRecDepth 100000 in
theorem c9 (a da : Option Addr) (cap dc : Nat) (fs : List F2) (is : List D8) (w : World) (hl : fs.length ≤ 1048576) (hs : ∀ i, (fs.getD i f2z).le 1048576) (hat : FilesAt w a fs) (hld : is.length ≤ 1048576) (hsd : ∀ i, (is.getD i d8z).le 1048576) (hda : DeedsAt w da is) (hv : VarsZ w) :
    Calls Tryz.prog 9 #[.agg #[.slice a fs.length cap], .slice da is.length dc] w fun e w' => IsSt fs is e ∧ Below w.heap.size w w' := by
  have HV : Hid (VarsZ w) := hv
  have HAT : Hid (FilesAt w a fs) := hat
  have HDA : Hid (DeedsAt w da is) := hda
  have HS : Hid (∀ i, (fs.getD i f2z).le 1048576) := hs
  have HSD : Hid (∀ i, (is.getD i d8z).le 1048576) := hsd
  have hB0 : ∀ o1, Below w.heap.size w (w.alloc o1) := fun o1 => (Below.refl _ _).alloc (Nat.le_refl _) _
  have h21 := fun u (hb : Below w.heap.size w u) => T.c21 a cap fs u hl hs (files_below hat hb)
  clear hv hat hda hs hsd
  go_enter Tryz.func9, Tryz.ntmps9
  go_wp2_with fail
  refine (h21 _ (hB0 _)).mono ?_
  rintro e w1 ⟨⟨b1, rfl, hb1t⟩, hb1⟩
  have hB1 : Below w.heap.size w w1 := (hB0 _).trans (hb1.mono (by simp))
  have hx1 : Below (w.heap.size + 1) (w.alloc (.cells #[.slice a fs.length cap] 31)) w1 := by have h := hb1; simp at h; exact h
  have hz1 : w.heap.size < w1.heap.size := by have := hx1.size; simp at this; omega
  have t0 : w1.cell? ⟨w.heap.size, 0, none⟩ = some (.slice a fs.length cap) := (hx1.cell (p := ⟨w.heap.size, 0, none⟩) (by simp)).trans (by simp [go_sem])
  clear hb1 hx1 hB0 h21
  cases b1
  · have hno : Hid (IsSt fs is (.returned (.bool false))) := ⟨false, rfl, ⟨fun h => absurd h Bool.false_ne_true, fun h => absurd (hb1t.2 h.1) Bool.false_ne_true⟩⟩
    go_wp2
    go_ret
    exact ⟨hno.out, hB1⟩
  · have HOK : Hid (treeOk fs) := hb1t.1 rfl
    clear hb1t
    go_wp2_with fail
    refine (c22 a cap fs w1 hl HS.out (files_below HAT.out hB1) (HV.out.below hB1)).mono ?_
    rintro e w2 ⟨⟨ms, v, rfl, hown, hpt⟩, hb2⟩
    obtain ⟨pa, pc, rfl, hmk⟩ := own3_form hown
    have hB2 : Below w.heap.size w w2 := hB1.trans (hb2.mono hB1.size)
    have hz2 : w.heap.size < w2.heap.size := Nat.lt_of_lt_of_le hz1 hb2.size
    have t2 := (hb2.cell (p := ⟨w.heap.size, 0, none⟩) (by exact hz1)).trans t0
    have HM : Hid (MksAt w2 pa ms) := hmk
    have HPT : Hid (IsPT fs ms) := hpt
    have hlm := isPT_len hpt
    have HMM : Hid (AscM ms) := isPT_asc hpt
    have HALL : Hid (StdAll fs is ↔ ∀ i, i < is.length → nameOk (is.getD i d8z).nm.data.toList = true ∧ Std fs ms (is.getD i d8z)) := ⟨fun h i hi => ⟨(h.2 i hi).1, (h.2 i hi).2 ms HPT.out⟩, fun h => ⟨HOK.out, fun i hi => ⟨(h i hi).1, fun ms' h' => by
      obtain rfl := isPT_one HPT.out h'
      exact (h i hi).2⟩⟩⟩
    obtain ⟨b, off, hc⟩ := deeds_some HDA.out
    have HC : Hid (is = [] ∨ (da = some ⟨b, off, none⟩ ∧ b < w.heap.size ∧ ∀ i, i < is.length → DeedAt w b (off + i * 8) (is.getD i d8z))) := hc
    clear hc hmk hpt hown hb2 t0
    go_wp2_with fail
    go_loopw [15] (fun vi wr => ∃ k : Nat, k ≤ is.length ∧ vi = .int .i64 k ∧ Below w2.heap.size w2 wr ∧ Hid (∀ j, j < k → nameOk (is.getD j d8z).nm.data.toList = true ∧ Std fs ms (is.getD j d8z))) (fun vi _ => is.length - (intOf vi).toNat)
    case atStart => exact ⟨0, Nat.zero_le _, rfl, Below.refl _ _, fun j h => absurd h (Nat.not_lt_zero _)⟩
    case round =>
      obtain ⟨k, hk, rfl, hb, hdone⟩ := hrel
      have hBr : Below w.heap.size w wr := hB2.trans (hb.mono hB2.size)
      have hzr : w2.heap.size ≤ wr.heap.size := hb.size
      by_cases hlt : k < is.length
      · rcases HC.out with hss | ⟨ha, hbw, hcell⟩
        · rw [hss] at hlt; exact absurd hlt (Nat.not_lt_zero _)
        subst ha
        obtain ⟨ai, ci, hcc, hg⟩ := hcell k hlt
        have g0 := (hBr.cell (p := ⟨b, off + k * 8, none⟩) hbw).trans hcc.1
        have g1 := (hBr.cell (p := ⟨b, off + k * 8 + 1, none⟩) hbw).trans hcc.2.1
        have g2 := (hBr.cell (p := ⟨b, off + k * 8 + 2, none⟩) hbw).trans hcc.2.2.1
        have g3 := (hBr.cell (p := ⟨b, off + k * 8 + 3, none⟩) hbw).trans hcc.2.2.2.1
        have g4 := (hBr.cell (p := ⟨b, off + k * 8 + 4, none⟩) hbw).trans hcc.2.2.2.2.1
        have g5 := (hBr.cell (p := ⟨b, off + k * 8 + 5, none⟩) hbw).trans hcc.2.2.2.2.2.1
        have g6 := (hBr.cell (p := ⟨b, off + k * 8 + 6, none⟩) hbw).trans hcc.2.2.2.2.2.2.1
        have g7 := (hBr.cell (p := ⟨b, off + k * 8 + 7, none⟩) hbw).trans hcc.2.2.2.2.2.2.2
        have hxs := HSD.out k
        have HN : Hid (¬ (nameOk (is.getD k d8z).nm.data.toList = true ∧ Std fs ms (is.getD k d8z)) → IsSt fs is (.returned (.bool false))) := fun h => ⟨false, rfl, ⟨fun h => absurd h Bool.false_ne_true, fun k' => absurd ((HALL.out.1 k') k hlt) h⟩⟩
        have HY : Hid (nameOk (is.getD k d8z).nm.data.toList = true ∧ Std fs ms (is.getD k d8z) → ∀ j, j < k + 1 → nameOk (is.getD j d8z).nm.data.toList = true ∧ Std fs ms (is.getD j d8z)) := fun h j hj => by
          rcases Nat.lt_or_ge j k with h1 | h1
          · exact hdone.out j h1
          · obtain rfl : j = k := by omega
            exact h
        generalize is.getD k d8z = x at *
        have HG : Hid (LksAt w ai x.ls) := hg
        have q0 := (hb.cell (p := ⟨w.heap.size, 0, none⟩) (by exact hz2)).trans t2
        obtain ⟨s1, s2, ⟨s3, s4⟩, s5⟩ := hxs
        clear hcell hcc hg
        go_wp2_with fail
        have hBV : Below w.heap.size w (wr.alloc (.cells #[.string x.nm, .bool x.made, .string x.km.nm, .string x.km.tl, .string x.km.ar, .slice ai x.ls.length ci, .int .i64 x.cd, .string x.tx] 52)) := hBr.alloc hBr.size _
        have hUV : Below w2.heap.size w2 (wr.alloc (.cells #[.string x.nm, .bool x.made, .string x.km.nm, .string x.km.tl, .string x.km.ar, .slice ai x.ls.length ci, .int .i64 x.cd, .string x.tx] 52)) := hb.alloc hb.size _
        have hzV : wr.heap.size < (wr.alloc (.cells #[.string x.nm, .bool x.made, .string x.km.nm, .string x.km.tl, .string x.km.ar, .slice ai x.ls.length ci, .int .i64 x.cd, .string x.tx] 52)).heap.size := by simp
        have v0 := (cell_al (show w.heap.size < wr.heap.size by omega) 0 (.cells #[.string x.nm, .bool x.made, .string x.km.nm, .string x.km.tl, .string x.km.ar, .slice ai x.ls.length ci, .int .i64 x.cd, .string x.tx] 52)).trans q0
        have y0 : (wr.alloc (.cells #[.string x.nm, .bool x.made, .string x.km.nm, .string x.km.tl, .string x.km.ar, .slice ai x.ls.length ci, .int .i64 x.cd, .string x.tx] 52)).cell? ⟨wr.heap.size, 0, none⟩ = some (.string x.nm) := by simp [go_sem]
        have y1 : (wr.alloc (.cells #[.string x.nm, .bool x.made, .string x.km.nm, .string x.km.tl, .string x.km.ar, .slice ai x.ls.length ci, .int .i64 x.cd, .string x.tx] 52)).cell? ⟨wr.heap.size, 1, none⟩ = some (.bool x.made) := by simp [go_sem]
        have y2 : (wr.alloc (.cells #[.string x.nm, .bool x.made, .string x.km.nm, .string x.km.tl, .string x.km.ar, .slice ai x.ls.length ci, .int .i64 x.cd, .string x.tx] 52)).cell? ⟨wr.heap.size, 2, none⟩ = some (.string x.km.nm) := by simp [go_sem]
        have y3 : (wr.alloc (.cells #[.string x.nm, .bool x.made, .string x.km.nm, .string x.km.tl, .string x.km.ar, .slice ai x.ls.length ci, .int .i64 x.cd, .string x.tx] 52)).cell? ⟨wr.heap.size, 3, none⟩ = some (.string x.km.tl) := by simp [go_sem]
        have y4 : (wr.alloc (.cells #[.string x.nm, .bool x.made, .string x.km.nm, .string x.km.tl, .string x.km.ar, .slice ai x.ls.length ci, .int .i64 x.cd, .string x.tx] 52)).cell? ⟨wr.heap.size, 4, none⟩ = some (.string x.km.ar) := by simp [go_sem]
        have y5 : (wr.alloc (.cells #[.string x.nm, .bool x.made, .string x.km.nm, .string x.km.tl, .string x.km.ar, .slice ai x.ls.length ci, .int .i64 x.cd, .string x.tx] 52)).cell? ⟨wr.heap.size, 5, none⟩ = some (.slice ai x.ls.length ci) := by simp [go_sem]
        have y6 : (wr.alloc (.cells #[.string x.nm, .bool x.made, .string x.km.nm, .string x.km.tl, .string x.km.ar, .slice ai x.ls.length ci, .int .i64 x.cd, .string x.tx] 52)).cell? ⟨wr.heap.size, 6, none⟩ = some (.int .i64 x.cd) := by simp [go_sem]
        have y7 : (wr.alloc (.cells #[.string x.nm, .bool x.made, .string x.km.nm, .string x.km.tl, .string x.km.ar, .slice ai x.ls.length ci, .int .i64 x.cd, .string x.tx] 52)).cell? ⟨wr.heap.size, 7, none⟩ = some (.string x.tx) := by simp [go_sem]
        generalize (wr.alloc (.cells #[.string x.nm, .bool x.made, .string x.km.nm, .string x.km.tl, .string x.km.ar, .slice ai x.ls.length ci, .int .i64 x.cd, .string x.tx] 52)) = V at *
        clear g0 g1 g2 g3 g4 g5 g6 g7 q0
        refine (c23 x.nm V (by omega)).mono ?_
        rintro e w3 ⟨rfl, hw3⟩
        obtain rfl := hw3.symm
        cases hn : nameOk x.nm.data.toList
        · have hno : Hid (IsSt fs is (.returned (.bool false))) := HN.out fun h => by rw [hn] at h; exact absurd h.1 Bool.false_ne_true
          go_wp2
          go_ret
          exact ⟨hno.out, hBV⟩
        · go_wp2_with fail
          refine (c24 a pa ai cap pc ci fs ms x _ HOK.out (files_below HAT.out hBV) hlm (mks_below HM.out hUV) HMM.out s3 (lks_below HG.out hBV)).mono ?_
          rintro e w4 ⟨⟨r, rfl, hr⟩, hb4⟩
          have hB4 : Below w.heap.size w w4 := hBV.trans (hb4.mono hBV.size)
          have hU4 : Below w2.heap.size w2 w4 := hUV.trans (hb4.mono hUV.size)
          cases r
          · have hno : Hid (IsSt fs is (.returned (.bool false))) := HN.out fun h => absurd (hr.2 h.2) Bool.false_ne_true
            clear hr
            go_wp2
            go_ret
            exact ⟨hno.out, hB4⟩
          · have hyes : Hid (∀ j, j < k + 1 → nameOk (is.getD j d8z).nm.data.toList = true ∧ Std fs ms (is.getD j d8z)) := HY.out ⟨hn, hr.1 rfl⟩
            clear hr
            go_wp2
            go_roundw
            case rel => exact ⟨k + 1, by omega, by go_num, hU4, hyes⟩
            case measure => simp [intOf]; omega
      · have hyes : Hid (IsSt fs is (.returned (.bool true))) := ⟨true, rfl, ⟨fun _ => HALL.out.2 fun j hj => hdone.out j (by omega), fun _ => rfl⟩⟩
        go_wp2
        go_ret
        exact ⟨hyes.out, hBr⟩
end Go.Proofs.YtggcgnfockpgmaaGreatDoor
namespace Go.Proofs.YtggcgnfockpgmaaGreatDoor
open Go.RowKit
open T (F2 f2z FilesAt Asc files_below treeOk)
theorem is17_plain {fs : List F2} {ms : List M3} {nm t : ByteArray} {c : Int} (hpt : IsPT fs ms) (hf : FreeM ms nm) (h : (c = 0 ∧ ∃ i, i < fs.length ∧ (fs.getD i f2z).nm = nm ∧ t = (fs.getD i f2z).tx) ∨ (Free fs nm ∧ ∃ ms, IsPT fs ms ∧ (FreeM ms nm → c = 4 ∧ t = nm))) : Plain fs nm c t := by
  rcases h with h | ⟨h1, ms', h2, h3⟩
  · exact .inl h
  · obtain rfl := isPT_one hpt h2
    obtain ⟨rfl, rfl⟩ := h3 hf
    exact .inr ⟨rfl, rfl, h1⟩
theorem is18_thing {fs : List F2} {ms : List M3} {nm : ByteArray} {e : Ending} (hpt : IsPT fs ms) (h : Is18 fs nm e) : ∃ r, e = .returned (.bool r) ∧ (r = true ↔ Thing fs ms nm) := by
  obtain ⟨r, rfl, h | h⟩ := h
  · obtain ⟨⟨i, hi, hn⟩, rfl⟩ := h
    exact ⟨true, rfl, ⟨fun _ c => c.1 i hi hn, fun _ => rfl⟩⟩
  · obtain ⟨ms', h2, r', he, hr⟩ := h
    obtain rfl := isPT_one hpt h2
    injection he with he
    injection he with he
    subst he
    exact ⟨r, rfl, hr⟩
set_option maxHeartbeats 4000000 in
set_option maxRecDepth 100000 in
theorem c6 (a da : Option Addr) (cap dc : Nat) (fs : List F2) (is : List D8) (w : World) (hl : fs.length ≤ 1048576) (hs : ∀ i, (fs.getD i f2z).le 1048576) (hat : FilesAt w a fs) (hld : is.length ≤ 1048576) (hsd : ∀ i, (is.getD i d8z).le 1048576) (hda : DeedsAt w da is) :
    Calls Tryz.prog 6 #[.agg #[.slice a fs.length cap], .slice da is.length dc] w fun e w' => IsSt fs is e ∧ Below w.heap.size w w' := by
  have HAT : Hid (FilesAt w a fs) := hat
  have HDA : Hid (DeedsAt w da is) := hda
  have HS : Hid (∀ i, (fs.getD i f2z).le 1048576) := hs
  have HSD : Hid (∀ i, (is.getD i d8z).le 1048576) := hsd
  have hB0 : ∀ o1, Below w.heap.size w (w.alloc o1) := fun o1 => (Below.refl _ _).alloc (Nat.le_refl _) _
  have h14 := fun u (hb : Below w.heap.size w u) => T.c14 a cap fs u hl hs (files_below hat hb)
  clear hat hda hs hsd
  go_enter Tryz.func6, Tryz.ntmps6
  go_wp2_with fail
  refine (h14 _ (hB0 _)).mono ?_
  rintro e w1 ⟨⟨b1, rfl, hb1t⟩, hb1⟩
  have hB1 : Below w.heap.size w w1 := (hB0 _).trans (hb1.mono (by simp))
  have hx1 : Below (w.heap.size + 1) (w.alloc (.cells #[.slice a fs.length cap] 31)) w1 := by have h := hb1; simp at h; exact h
  have hz1 : w.heap.size < w1.heap.size := by have := hx1.size; simp at this; omega
  have t0 : w1.cell? ⟨w.heap.size, 0, none⟩ = some (.slice a fs.length cap) := (hx1.cell (p := ⟨w.heap.size, 0, none⟩) (by simp)).trans (by simp [go_sem])
  clear hb1 hx1 hB0 h14
  cases b1
  · have hno : Hid (IsSt fs is (.returned (.bool false))) := ⟨false, rfl, ⟨fun h => absurd h Bool.false_ne_true, fun h => absurd (hb1t.2 h.1) Bool.false_ne_true⟩⟩
    go_wp2
    go_ret
    exact ⟨hno.out, hB1⟩
  · have HOK : Hid (treeOk fs) := hb1t.1 rfl
    clear hb1t
    obtain ⟨b, off, hc⟩ := deeds_some HDA.out
    have HC : Hid (is = [] ∨ (da = some ⟨b, off, none⟩ ∧ b < w.heap.size ∧ ∀ i, i < is.length → DeedAt w b (off + i * 8) (is.getD i d8z))) := hc
    clear hc
    go_wp2_with fail
    go_loopw [5] (fun vi wr => ∃ k : Nat, k ≤ is.length ∧ vi = .int .i64 k ∧ Below w1.heap.size w1 wr ∧ Hid (∀ j, j < k → Dn fs (is.getD j d8z))) (fun vi _ => is.length - (intOf vi).toNat)
    case atStart => exact ⟨0, Nat.zero_le _, rfl, Below.refl _ _, fun j h => absurd h (Nat.not_lt_zero _)⟩
    case round =>
      obtain ⟨q, hq, rfl, hb, hdone⟩ := hrel
      obtain ⟨wo, rfl⟩ : ∃ wo, wo = wr := ⟨wr, rfl⟩
      have hBr : Below w.heap.size w wo := hB1.trans (hb.mono hB1.size)
      have hzr : w1.heap.size ≤ wo.heap.size := hb.size
      by_cases hlt : q < is.length
      · rcases HC.out with hss | ⟨ha, hbw, hcell⟩
        · rw [hss] at hlt; exact absurd hlt (Nat.not_lt_zero _)
        subst ha
        obtain ⟨ai, ci, hcc, hg⟩ := hcell q hlt
        have g0 := (hBr.cell (p := ⟨b, off + q * 8, none⟩) hbw).trans hcc.1
        have g1 := (hBr.cell (p := ⟨b, off + q * 8 + 1, none⟩) hbw).trans hcc.2.1
        have g2 := (hBr.cell (p := ⟨b, off + q * 8 + 2, none⟩) hbw).trans hcc.2.2.1
        have g3 := (hBr.cell (p := ⟨b, off + q * 8 + 3, none⟩) hbw).trans hcc.2.2.2.1
        have g4 := (hBr.cell (p := ⟨b, off + q * 8 + 4, none⟩) hbw).trans hcc.2.2.2.2.1
        have g5 := (hBr.cell (p := ⟨b, off + q * 8 + 5, none⟩) hbw).trans hcc.2.2.2.2.2.1
        have g6 := (hBr.cell (p := ⟨b, off + q * 8 + 6, none⟩) hbw).trans hcc.2.2.2.2.2.2.1
        have g7 := (hBr.cell (p := ⟨b, off + q * 8 + 7, none⟩) hbw).trans hcc.2.2.2.2.2.2.2
        have hxs := HSD.out q
        have HN : Hid (¬ Dn fs (is.getD q d8z) → IsSt fs is (.returned (.bool false))) := fun h => ⟨false, rfl, ⟨fun h => absurd h Bool.false_ne_true, fun k' => absurd (k'.2 q hlt) h⟩⟩
        have HY : Hid (Dn fs (is.getD q d8z) → ∀ j, j < q + 1 → Dn fs (is.getD j d8z)) := fun h j hj => by
          rcases Nat.lt_or_ge j q with h1 | h1
          · exact hdone.out j h1
          · obtain rfl : j = q := by omega
            exact h
        generalize is.getD q d8z = x at *
        have HG : Hid (LksAt w ai x.ls) := hg
        have q0 := (hb.cell (p := ⟨w.heap.size, 0, none⟩) (by exact hz1)).trans t0
        obtain ⟨s1, s2, ⟨s3, s4⟩, s5⟩ := hxs
        clear hcell hcc hg
        go_wp2_with fail
        have hBV : Below w.heap.size w (wo.alloc (.cells #[.string x.nm, .bool x.made, .string x.km.nm, .string x.km.tl, .string x.km.ar, .slice ai x.ls.length ci, .int .i64 x.cd, .string x.tx] 52)) := hBr.alloc hBr.size _
        have hUV : Below w1.heap.size w1 (wo.alloc (.cells #[.string x.nm, .bool x.made, .string x.km.nm, .string x.km.tl, .string x.km.ar, .slice ai x.ls.length ci, .int .i64 x.cd, .string x.tx] 52)) := hb.alloc hb.size _
        have hzV : wo.heap.size < (wo.alloc (.cells #[.string x.nm, .bool x.made, .string x.km.nm, .string x.km.tl, .string x.km.ar, .slice ai x.ls.length ci, .int .i64 x.cd, .string x.tx] 52)).heap.size := by simp
        have v0 := (cell_al (show w.heap.size < wo.heap.size by omega) 0 (.cells #[.string x.nm, .bool x.made, .string x.km.nm, .string x.km.tl, .string x.km.ar, .slice ai x.ls.length ci, .int .i64 x.cd, .string x.tx] 52)).trans q0
        have y0 : (wo.alloc (.cells #[.string x.nm, .bool x.made, .string x.km.nm, .string x.km.tl, .string x.km.ar, .slice ai x.ls.length ci, .int .i64 x.cd, .string x.tx] 52)).cell? ⟨wo.heap.size, 0, none⟩ = some (.string x.nm) := by simp [go_sem]
        have y1 : (wo.alloc (.cells #[.string x.nm, .bool x.made, .string x.km.nm, .string x.km.tl, .string x.km.ar, .slice ai x.ls.length ci, .int .i64 x.cd, .string x.tx] 52)).cell? ⟨wo.heap.size, 1, none⟩ = some (.bool x.made) := by simp [go_sem]
        have y2 : (wo.alloc (.cells #[.string x.nm, .bool x.made, .string x.km.nm, .string x.km.tl, .string x.km.ar, .slice ai x.ls.length ci, .int .i64 x.cd, .string x.tx] 52)).cell? ⟨wo.heap.size, 2, none⟩ = some (.string x.km.nm) := by simp [go_sem]
        have y3 : (wo.alloc (.cells #[.string x.nm, .bool x.made, .string x.km.nm, .string x.km.tl, .string x.km.ar, .slice ai x.ls.length ci, .int .i64 x.cd, .string x.tx] 52)).cell? ⟨wo.heap.size, 3, none⟩ = some (.string x.km.tl) := by simp [go_sem]
        have y4 : (wo.alloc (.cells #[.string x.nm, .bool x.made, .string x.km.nm, .string x.km.tl, .string x.km.ar, .slice ai x.ls.length ci, .int .i64 x.cd, .string x.tx] 52)).cell? ⟨wo.heap.size, 4, none⟩ = some (.string x.km.ar) := by simp [go_sem]
        have y5 : (wo.alloc (.cells #[.string x.nm, .bool x.made, .string x.km.nm, .string x.km.tl, .string x.km.ar, .slice ai x.ls.length ci, .int .i64 x.cd, .string x.tx] 52)).cell? ⟨wo.heap.size, 5, none⟩ = some (.slice ai x.ls.length ci) := by simp [go_sem]
        have y6 : (wo.alloc (.cells #[.string x.nm, .bool x.made, .string x.km.nm, .string x.km.tl, .string x.km.ar, .slice ai x.ls.length ci, .int .i64 x.cd, .string x.tx] 52)).cell? ⟨wo.heap.size, 6, none⟩ = some (.int .i64 x.cd) := by simp [go_sem]
        have y7 : (wo.alloc (.cells #[.string x.nm, .bool x.made, .string x.km.nm, .string x.km.tl, .string x.km.ar, .slice ai x.ls.length ci, .int .i64 x.cd, .string x.tx] 52)).cell? ⟨wo.heap.size, 7, none⟩ = some (.string x.tx) := by simp [go_sem]
        generalize (wo.alloc (.cells #[.string x.nm, .bool x.made, .string x.km.nm, .string x.km.tl, .string x.km.ar, .slice ai x.ls.length ci, .int .i64 x.cd, .string x.tx] 52)) = V at *
        clear g0 g1 g2 g3 g4 g5 g6 g7 q0
        refine (c15 x.nm V (by omega)).mono ?_
        rintro e w2 ⟨rfl, hw2⟩
        obtain rfl := hw2.symm
        cases hn : nameOk x.nm.data.toList
        · have hno : Hid (IsSt fs is (.returned (.bool false))) := HN.out fun h => by have := h.1; rw [hn] at this; cases this
          go_wp2
          go_ret
          exact ⟨hno.out, hBV⟩
        · go_wp2_with fail
          refine (c16 a cap fs x.nm _ hl HS.out (files_below HAT.out hBV)).mono ?_
          rintro e w3 ⟨⟨ms, hpt, m, g, rfl, hx⟩, hb3⟩
          have HPT : Hid (IsPT fs ms) := hpt
          have HNS : Hid (¬ Std fs ms x → IsSt fs is (.returned (.bool false))) := fun h => HN.out fun d => h (d.2 ms HPT.out)
          have HX : Hid ((g = true ∧ ∃ i, i < ms.length ∧ ms.getD i m3z = m ∧ m.nm = x.nm) ∨ (g = false ∧ ∀ j, j < ms.length → (ms.getD j m3z).nm ≠ x.nm)) := hx
          have hB3 : Below w.heap.size w w3 := hBV.trans (hb3.mono hBV.size)
          have hU3 : Below w1.heap.size w1 w3 := hUV.trans (hb3.mono hUV.size)
          have hz3 : wo.heap.size < w3.heap.size := Nat.lt_of_lt_of_le hzV hb3.size
          have v1 := (hb3.cell (p := ⟨w.heap.size, 0, none⟩) (by show w.heap.size < V.heap.size; omega)).trans v0
          have x0 := (hb3.cell (p := ⟨wo.heap.size, 0, none⟩) (by exact hzV)).trans y0
          have x1 := (hb3.cell (p := ⟨wo.heap.size, 1, none⟩) (by exact hzV)).trans y1
          have x2 := (hb3.cell (p := ⟨wo.heap.size, 2, none⟩) (by exact hzV)).trans y2
          have x3 := (hb3.cell (p := ⟨wo.heap.size, 3, none⟩) (by exact hzV)).trans y3
          have x4 := (hb3.cell (p := ⟨wo.heap.size, 4, none⟩) (by exact hzV)).trans y4
          have x5 := (hb3.cell (p := ⟨wo.heap.size, 5, none⟩) (by exact hzV)).trans y5
          have x6 := (hb3.cell (p := ⟨wo.heap.size, 6, none⟩) (by exact hzV)).trans y6
          have x7 := (hb3.cell (p := ⟨wo.heap.size, 7, none⟩) (by exact hzV)).trans y7
          clear hx hpt hb3 v0 y0 y1 y2 y3 y4 y5 y6 y7
          cases g
          · have hfree : Hid (FreeM ms x.nm) := by
              rcases HX.out with ⟨h, _⟩ | ⟨_, h⟩
              · cases h
              · exact h
            cases hmade : x.made
            · rw [hmade] at x1
              have ov : ∀ o, (w3.alloc o).cell? ⟨w.heap.size, 0, none⟩ = some (.slice a fs.length cap) := fun o => (cell_al (show w.heap.size < w3.heap.size by omega) 0 o).trans v1
              have ox : ∀ o, (w3.alloc o).cell? ⟨wo.heap.size, 0, none⟩ = some (.string x.nm) := fun o => (cell_al hz3 0 o).trans x0
              go_wp2_with fail
              clear ov ox
              have hBV3 : Below w.heap.size w (w3.alloc (.cells #[.string m.nm, .string m.tl, .string m.ar] 48)) := hB3.alloc hB3.size _
              have hUV3 : Below w1.heap.size w1 (w3.alloc (.cells #[.string m.nm, .string m.tl, .string m.ar] 48)) := hU3.alloc hU3.size _
              have hzV3 : wo.heap.size < (w3.alloc (.cells #[.string m.nm, .string m.tl, .string m.ar] 48)).heap.size := by simp; omega
              have v30 := (cell_al (show w.heap.size < w3.heap.size by omega) 0 (.cells #[.string m.nm, .string m.tl, .string m.ar] 48)).trans v1
              have z0 := (cell_al hz3 0 (.cells #[.string m.nm, .string m.tl, .string m.ar] 48)).trans x0
              have z1 := (cell_al hz3 1 (.cells #[.string m.nm, .string m.tl, .string m.ar] 48)).trans x1
              have z2 := (cell_al hz3 2 (.cells #[.string m.nm, .string m.tl, .string m.ar] 48)).trans x2
              have z3 := (cell_al hz3 3 (.cells #[.string m.nm, .string m.tl, .string m.ar] 48)).trans x3
              have z4 := (cell_al hz3 4 (.cells #[.string m.nm, .string m.tl, .string m.ar] 48)).trans x4
              have z5 := (cell_al hz3 5 (.cells #[.string m.nm, .string m.tl, .string m.ar] 48)).trans x5
              have z6 := (cell_al hz3 6 (.cells #[.string m.nm, .string m.tl, .string m.ar] 48)).trans x6
              have z7 := (cell_al hz3 7 (.cells #[.string m.nm, .string m.tl, .string m.ar] 48)).trans x7
              generalize (w3.alloc (.cells #[.string m.nm, .string m.tl, .string m.ar] 48)) = V3 at *
              clear v1 x0 x1 x2 x3 x4 x5 x6 x7
              refine (c17 a cap fs x.nm _ hl HS.out (files_below HAT.out hBV3)).mono ?_
              rintro e w4 ⟨⟨c, t, kk, rfl, hp⟩, hb4⟩
              have HP : Hid (Plain fs x.nm c t) := is17_plain HPT.out hfree.out hp
              have HE : Hid (Std fs ms x ↔ (x.cd = c ∧ x.tx = t)) := std_plain HOK.out hfree.out hmade HP.out
              have hB4 : Below w.heap.size w w4 := hBV3.trans (hb4.mono hBV3.size)
              have hU4 : Below w1.heap.size w1 w4 := hUV3.trans (hb4.mono hUV3.size)
              have k6 := (hb4.cell (p := ⟨wo.heap.size, 6, none⟩) (by exact hzV3)).trans z6
              have k7 := (hb4.cell (p := ⟨wo.heap.size, 7, none⟩) (by exact hzV3)).trans z7
              have hz4 : wo.heap.size < w4.heap.size := Nat.lt_of_lt_of_le hzV3 hb4.size
              clear hp hb4
              by_cases e1 : c = x.cd
              · by_cases e2 : t.toList = x.tx.toList
                · have hyes : Hid (∀ j, j < q + 1 → Dn fs (is.getD j d8z)) := HY.out ⟨hn, fun ms' h' => by
                    obtain rfl := isPT_one HPT.out h'
                    exact HE.out.2 ⟨e1.symm, ((ba_iff _ _).1 e2).symm⟩⟩
                  obtain rfl := e1
                  obtain rfl := (ba_iff _ _).1 e2
                  clear e2
                  go_wp2
                  go_roundw
                  case rel => exact ⟨q + 1, by omega, by go_num, hU4.alloc hU4.size _, hyes⟩
                  case measure => simp [intOf]; omega
                · have hno : Hid (IsSt fs is (.returned (.bool false))) := HNS.out fun h => e2 ((ba_iff _ _).2 (HE.out.1 h).2.symm)
                  obtain rfl := e1
                  go_wp2
                  go_ret
                  exact ⟨hno.out, hB4.alloc hB4.size _⟩
              · have hno : Hid (IsSt fs is (.returned (.bool false))) := HNS.out fun h => e1 (HE.out.1 h).1.symm
                go_wp2
                go_ret
                exact ⟨hno.out, hB4.alloc hB4.size _⟩
            · rw [hmade] at x1
              have hno : Hid (IsSt fs is (.returned (.bool false))) := HNS.out (std_miss hfree.out hmade)
              go_wp2
              go_ret
              exact ⟨hno.out, hB3.alloc hB3.size _⟩
          · have HMI : Hid (∃ i, i < ms.length ∧ ms.getD i m3z = m ∧ m.nm = x.nm) := by
              rcases HX.out with ⟨_, h⟩ | ⟨h, _⟩
              · exact h
              · cases h
            cases hmade : x.made
            · rw [hmade] at x1
              have hno : Hid (IsSt fs is (.returned (.bool false))) := by
                obtain ⟨i, hi, hmi, hmn⟩ := HMI.out
                exact HNS.out (std_there hi (by rw [hmi]; exact hmn) hmade)
              go_wp2
              go_ret
              exact ⟨hno.out, hB3.alloc hB3.size _⟩
            · rw [hmade] at x1
              have HNE : Hid (m ≠ x.km → IsSt fs is (.returned (.bool false))) := fun h => HNS.out fun d => by
                rcases d with ⟨_, ⟨j, hj, he, hk⟩, _⟩ | ⟨h1, _⟩
                · obtain ⟨i, hi, hmi, hmn⟩ := HMI.out
                  obtain rfl := ascM_once (isPT_asc HPT.out) hi hj (by rw [hmi, he, hmn, hk])
                  exact h (hmi.symm.trans he)
                · rw [hmade] at h1; cases h1
              by_cases e1 : m.nm.toList = x.km.nm.toList
              · by_cases e2 : m.tl.toList = x.km.tl.toList
                · by_cases e3 : m.ar.toList = x.km.ar.toList
                  · have HME : Hid (m = x.km) := (km_iff _ _).2 ⟨e1, e2, e3⟩
                    obtain ⟨lb, lo, hcl⟩ := lks_some HG.out
                    have HCL : Hid (x.ls = [] ∨ (ai = some ⟨lb, lo, none⟩ ∧ lb < w.heap.size ∧ ∀ i, i < x.ls.length → w.cell? ⟨lb, lo + i * 4, none⟩ = some (.bool (x.ls.getD i l4z).has) ∧ w.cell? ⟨lb, lo + i * 4 + 1, none⟩ = some (.string (x.ls.getD i l4z).nm) ∧ w.cell? ⟨lb, lo + i * 4 + 2, none⟩ = some (.int .i64 (x.ls.getD i l4z).cd) ∧ w.cell? ⟨lb, lo + i * 4 + 3, none⟩ = some (.string (x.ls.getD i l4z).tx))) := hcl
                    clear hcl
                    go_wp2_with fail
                    have hBV3 : Below w.heap.size w (w3.alloc (.cells #[.string m.nm, .string m.tl, .string m.ar] 48)) := hB3.alloc hB3.size _
                    have hUV3 : Below w1.heap.size w1 (w3.alloc (.cells #[.string m.nm, .string m.tl, .string m.ar] 48)) := hU3.alloc hU3.size _
                    have hzV3 : wo.heap.size < (w3.alloc (.cells #[.string m.nm, .string m.tl, .string m.ar] 48)).heap.size := by simp; omega
                    have v30 := (cell_al (show w.heap.size < w3.heap.size by omega) 0 (.cells #[.string m.nm, .string m.tl, .string m.ar] 48)).trans v1
                    have z0 := (cell_al hz3 0 (.cells #[.string m.nm, .string m.tl, .string m.ar] 48)).trans x0
                    have z1 := (cell_al hz3 1 (.cells #[.string m.nm, .string m.tl, .string m.ar] 48)).trans x1
                    have z2 := (cell_al hz3 2 (.cells #[.string m.nm, .string m.tl, .string m.ar] 48)).trans x2
                    have z3 := (cell_al hz3 3 (.cells #[.string m.nm, .string m.tl, .string m.ar] 48)).trans x3
                    have z4 := (cell_al hz3 4 (.cells #[.string m.nm, .string m.tl, .string m.ar] 48)).trans x4
                    have z5 := (cell_al hz3 5 (.cells #[.string m.nm, .string m.tl, .string m.ar] 48)).trans x5
                    have z6 := (cell_al hz3 6 (.cells #[.string m.nm, .string m.tl, .string m.ar] 48)).trans x6
                    have z7 := (cell_al hz3 7 (.cells #[.string m.nm, .string m.tl, .string m.ar] 48)).trans x7
                    generalize (w3.alloc (.cells #[.string m.nm, .string m.tl, .string m.ar] 48)) = V3 at *
                    clear v1 x0 x1 x2 x3 x4 x5 x6 x7
                    clear e1 e2 e3
                    go_loopw [11] (fun vk wk => ∃ k : Nat, k ≤ x.ls.length ∧ vk = .int .i64 k ∧ Below V3.heap.size V3 wk ∧ Hid (∀ j, j < k → LookStd fs ms (x.ls.getD j l4z))) (fun vk _ => x.ls.length - (intOf vk).toNat)
                    case atStart => exact ⟨0, Nat.zero_le _, rfl, Below.refl _ _, fun j h => absurd h (Nat.not_lt_zero _)⟩
                    case round =>
                      obtain ⟨k, hk, rfl, hbk, hdk⟩ := hrel
                      have hBk : Below w.heap.size w wr := hBV3.trans (hbk.mono hBV3.size)
                      have hUk : Below w1.heap.size w1 wr := hUV3.trans (hbk.mono hUV3.size)
                      have q0 := (hbk.cell (p := ⟨w.heap.size, 0, none⟩) (by show w.heap.size < V3.heap.size; omega)).trans v30
                      have q5 := (hbk.cell (p := ⟨wo.heap.size, 5, none⟩) (by exact hzV3)).trans z5
                      by_cases hlt' : k < x.ls.length
                      · rcases HCL.out with hss | ⟨ha, hbw', hcell'⟩
                        · rw [hss] at hlt'; exact absurd hlt' (Nat.not_lt_zero _)
                        subst ha
                        obtain ⟨g0, g1, g2, g3⟩ := hcell' k hlt'
                        have g0 := (hBk.cell (p := ⟨lb, lo + k * 4, none⟩) hbw').trans g0
                        have g1 := (hBk.cell (p := ⟨lb, lo + k * 4 + 1, none⟩) hbw').trans g1
                        have g2 := (hBk.cell (p := ⟨lb, lo + k * 4 + 2, none⟩) hbw').trans g2
                        have hzk2 : lb < wr.heap.size := Nat.lt_of_lt_of_le hbw' hBk.size
                        have hzk0 : w.heap.size < wr.heap.size := by have := hbk.size; omega
                        have hzk1 : wo.heap.size < wr.heap.size := by have := hbk.size; omega
                        have HNK : Hid (¬ LookStd fs ms (x.ls.getD k l4z) → IsSt fs is (.returned (.bool false))) := fun h => HNS.out (std_not hmade hlt' h)
                        have HYK : Hid (LookStd fs ms (x.ls.getD k l4z) → ∀ j, j < k + 1 → LookStd fs ms (x.ls.getD j l4z)) := fun h j hj => by
                          rcases Nat.lt_or_ge j k with h1 | h1
                          · exact hdk.out j h1
                          · obtain rfl : j = k := by omega
                            exact h
                        generalize x.ls.getD k l4z = y at *
                        have hki : (k : Int) < (x.ls.length : Int) := by omega
                        clear hcell' g3
                        go_wp2_with fail
                        cases hh : y.has
                        · rw [hh] at g0
                          have hyk : Hid (∀ j, j < k + 1 → LookStd fs ms (x.ls.getD j l4z)) := HYK.out (lookStd_no hh)
                          refine wp_region_held_drew (S := (fun u => u.cell? ⟨w.heap.size, 0, none⟩ = some (.slice a fs.length cap) ∧ u.cell? ⟨wo.heap.size, 5, none⟩ = some (.slice (some ⟨lb, lo, none⟩) x.ls.length ci) ∧ u.cell? ⟨lb, lo + k * 4, none⟩ = some (.bool false) ∧ u.cell? ⟨lb, lo + k * 4 + 1, none⟩ = some (.string y.nm) ∧ u.cell? ⟨lb, lo + k * 4 + 2, none⟩ = some (.int .i64 y.cd))) (by kernel_rfl) ?_ (fun hHeld => ?_)
                          · ((try dsimp only); go_keep)
                          refine wpAnyH_take (i := 0) (oi := { dst := some 69, op := Op.fieldAddr 52 (Operand.tmp 6) 3, type := 0, pos := "l4_want.go:234", after := #[], guard := none }) (v := ?_) rfl (by kernel_rfl) (by kernel_rfl) (by kernel_rfl) (fun _ _ _ h => h) (Or.inl ⟨by rfl, ?_⟩) (by assumption) ?_
                          rotate_left
                          · intro wq hSw
                            (try dsimp only at hSw)
                            go_simp
                            try with_reducible rfl
                          try simp only [Act.put, List.setIfInBounds_toArray, List.set_cons_zero, List.set_cons_succ]
                          refine wpAnyH_take (i := 1) (oi := { dst := some 70, op := Op.load 49 (Operand.tmp 69), type := 49, pos := "l4_want.go:234", after := #[{ on := 0, ground := Ground.data }], guard := none }) (v := ?_) rfl (by kernel_rfl) (by kernel_rfl) (by kernel_rfl) (fun _ _ _ h => h) (Or.inl ⟨by rfl, ?_⟩) (by assumption) ?_
                          rotate_left
                          · intro wq hSw
                            (try dsimp only at hSw)
                            go_simp
                            try with_reducible rfl
                          try simp only [Act.put, List.setIfInBounds_toArray, List.set_cons_zero, List.set_cons_succ]
                          refine wpAnyH_take (i := 2) (oi := { dst := some 71, op := Op.move (Operand.tmp 11), type := 3, pos := "l4_want.go:234", after := #[], guard := none }) (v := ?_) rfl (by kernel_rfl) (by kernel_rfl) (by kernel_rfl) (fun _ _ _ h => h) (Or.inl ⟨by rfl, ?_⟩) (by assumption) ?_
                          rotate_left
                          · intro wq hSw
                            (try dsimp only at hSw)
                            go_simp
                            try with_reducible rfl
                          try simp only [Act.put, List.setIfInBounds_toArray, List.set_cons_zero, List.set_cons_succ]
                          refine wpAnyH_take (i := 3) (oi := { dst := some 72, op := Op.indexAddr 49 (Operand.tmp 70) (Operand.tmp 71), type := 0, pos := "l4_want.go:234", after := #[{ on := 1, ground := Ground.data }, { on := 2, ground := Ground.data }], guard := none }) (v := ?_) rfl (by kernel_rfl) (by kernel_rfl) (by kernel_rfl) (fun _ _ _ h => h) (Or.inl ⟨by rfl, ?_⟩) (by assumption) ?_
                          rotate_left
                          · intro wq hSw
                            (try dsimp only at hSw)
                            go_simp
                            try with_reducible rfl
                          try simp only [Act.put, List.setIfInBounds_toArray, List.set_cons_zero, List.set_cons_succ]
                          refine wpAnyH_take (i := 4) (oi := { dst := some 73, op := Op.fieldAddr 59 (Operand.tmp 72) 0, type := 0, pos := "l4_want.go:234", after := #[{ on := 3, ground := Ground.data }], guard := none }) (v := ?_) rfl (by kernel_rfl) (by kernel_rfl) (by kernel_rfl) (fun _ _ _ h => h) (Or.inl ⟨by rfl, ?_⟩) (by assumption) ?_
                          rotate_left
                          · intro wq hSw
                            (try dsimp only at hSw)
                            go_simp
                            try with_reducible rfl
                          try simp only [Act.put, List.setIfInBounds_toArray, List.set_cons_zero, List.set_cons_succ]
                          refine wpAnyH_take (i := 5) (oi := { dst := some 74, op := Op.load 4 (Operand.tmp 73), type := 4, pos := "l4_want.go:234", after := #[{ on := 4, ground := Ground.data }], guard := none }) (v := ?_) rfl (by kernel_rfl) (by kernel_rfl) (by kernel_rfl) (fun _ _ _ h => h) (Or.inl ⟨by rfl, ?_⟩) (by assumption) ?_
                          rotate_left
                          · intro wq hSw
                            (try dsimp only at hSw)
                            go_simp
                            try with_reducible rfl
                          try simp only [Act.put, List.setIfInBounds_toArray, List.set_cons_zero, List.set_cons_succ]
                          refine wpAnyH_take (i := 6) (oi := { dst := some 75, op := Op.move (Operand.tmp 74), type := 4, pos := "l4_want.go:234", after := #[{ on := 5, ground := Ground.data }], guard := none }) (v := ?_) rfl (by kernel_rfl) (by kernel_rfl) (by kernel_rfl) (fun _ _ _ h => h) (Or.inl ⟨by rfl, ?_⟩) (by assumption) ?_
                          rotate_left
                          · intro wq hSw
                            (try dsimp only at hSw)
                            go_simp
                            try with_reducible rfl
                          try simp only [Act.put, List.setIfInBounds_toArray, List.set_cons_zero, List.set_cons_succ]
                          refine wpAnyH_take (i := 7) (oi := { dst := some 76, op := Op.load 31 (Operand.tmp 2), type := 31, pos := "l4_want.go:234", after := #[{ on := 6, ground := Ground.guard }], guard := some (6, true) }) (v := undef) rfl (by kernel_rfl) (by kernel_rfl) (by kernel_rfl) (fun _ _ _ h => h) (Or.inr ⟨by rfl, rfl⟩) (by assumption) ?_
                          try simp only [Act.put, List.setIfInBounds_toArray, List.set_cons_zero, List.set_cons_succ]
                          refine wpAnyH_take (i := 8) (oi := { dst := some 77, op := Op.fieldAddr 52 (Operand.tmp 6) 3, type := 0, pos := "l4_want.go:234", after := #[{ on := 6, ground := Ground.guard }], guard := some (6, true) }) (v := undef) rfl (by kernel_rfl) (by kernel_rfl) (by kernel_rfl) (fun _ _ _ h => h) (Or.inr ⟨by rfl, rfl⟩) (by assumption) ?_
                          try simp only [Act.put, List.setIfInBounds_toArray, List.set_cons_zero, List.set_cons_succ]
                          refine wpAnyH_take (i := 9) (oi := { dst := some 78, op := Op.load 49 (Operand.tmp 77), type := 49, pos := "l4_want.go:234", after := #[{ on := 8, ground := Ground.data }, { on := 6, ground := Ground.guard }], guard := some (6, true) }) (v := undef) rfl (by kernel_rfl) (by kernel_rfl) (by kernel_rfl) (fun _ _ _ h => h) (Or.inr ⟨by rfl, rfl⟩) (by assumption) ?_
                          try simp only [Act.put, List.setIfInBounds_toArray, List.set_cons_zero, List.set_cons_succ]
                          refine wpAnyH_take (i := 10) (oi := { dst := some 79, op := Op.move (Operand.tmp 11), type := 3, pos := "l4_want.go:234", after := #[{ on := 6, ground := Ground.guard }], guard := some (6, true) }) (v := undef) rfl (by kernel_rfl) (by kernel_rfl) (by kernel_rfl) (fun _ _ _ h => h) (Or.inr ⟨by rfl, rfl⟩) (by assumption) ?_
                          try simp only [Act.put, List.setIfInBounds_toArray, List.set_cons_zero, List.set_cons_succ]
                          refine wpAnyH_take (i := 11) (oi := { dst := some 80, op := Op.indexAddr 49 (Operand.tmp 78) (Operand.tmp 79), type := 0, pos := "l4_want.go:234", after := #[{ on := 9, ground := Ground.data }, { on := 10, ground := Ground.data }, { on := 6, ground := Ground.guard }], guard := some (6, true) }) (v := undef) rfl (by kernel_rfl) (by kernel_rfl) (by kernel_rfl) (fun _ _ _ h => h) (Or.inr ⟨by rfl, rfl⟩) (by assumption) ?_
                          try simp only [Act.put, List.setIfInBounds_toArray, List.set_cons_zero, List.set_cons_succ]
                          refine wpAnyH_take (i := 12) (oi := { dst := some 81, op := Op.fieldAddr 59 (Operand.tmp 80) 1, type := 0, pos := "l4_want.go:234", after := #[{ on := 11, ground := Ground.data }, { on := 6, ground := Ground.guard }], guard := some (6, true) }) (v := undef) rfl (by kernel_rfl) (by kernel_rfl) (by kernel_rfl) (fun _ _ _ h => h) (Or.inr ⟨by rfl, rfl⟩) (by assumption) ?_
                          try simp only [Act.put, List.setIfInBounds_toArray, List.set_cons_zero, List.set_cons_succ]
                          refine wpAnyH_take (i := 13) (oi := { dst := some 82, op := Op.load 9 (Operand.tmp 81), type := 9, pos := "l4_want.go:234", after := #[{ on := 12, ground := Ground.data }, { on := 6, ground := Ground.guard }], guard := some (6, true) }) (v := undef) rfl (by kernel_rfl) (by kernel_rfl) (by kernel_rfl) (fun _ _ _ h => h) (Or.inr ⟨by rfl, rfl⟩) (by assumption) ?_
                          try simp only [Act.put, List.setIfInBounds_toArray, List.set_cons_zero, List.set_cons_succ]
                          refine wpAnyH_take (i := 14) (oi := { dst := some 83, op := Op.call { callee := Callee.value (Operand.func 18), args := #[Operand.tmp 76, Operand.tmp 82], argTypes := #[31, 9] }, type := 4, pos := "l4_want.go:234", after := #[{ on := 7, ground := Ground.data }, { on := 13, ground := Ground.data }, { on := 6, ground := Ground.chain }, { on := 6, ground := Ground.guard }], guard := some (6, true) }) (v := undef) rfl (by kernel_rfl) (by kernel_rfl) (by kernel_rfl) (fun _ _ _ h => h) (Or.inr ⟨by rfl, rfl⟩) (by assumption) ?_
                          try simp only [Act.put, List.setIfInBounds_toArray, List.set_cons_zero, List.set_cons_succ]
                          refine wpAnyH_take (i := 15) (oi := { dst := some 84, op := Op.fieldAddr 52 (Operand.tmp 6) 3, type := 0, pos := "l4_want.go:234", after := #[{ on := 6, ground := Ground.guard }], guard := some (6, true) }) (v := undef) rfl (by kernel_rfl) (by kernel_rfl) (by kernel_rfl) (fun _ _ _ h => h) (Or.inr ⟨by rfl, rfl⟩) (by assumption) ?_
                          try simp only [Act.put, List.setIfInBounds_toArray, List.set_cons_zero, List.set_cons_succ]
                          refine wpAnyH_take (i := 16) (oi := { dst := some 85, op := Op.load 49 (Operand.tmp 84), type := 49, pos := "l4_want.go:234", after := #[{ on := 15, ground := Ground.data }, { on := 6, ground := Ground.guard }], guard := some (6, true) }) (v := undef) rfl (by kernel_rfl) (by kernel_rfl) (by kernel_rfl) (fun _ _ _ h => h) (Or.inr ⟨by rfl, rfl⟩) (by assumption) ?_
                          try simp only [Act.put, List.setIfInBounds_toArray, List.set_cons_zero, List.set_cons_succ]
                          refine wpAnyH_take (i := 17) (oi := { dst := some 86, op := Op.move (Operand.tmp 11), type := 3, pos := "l4_want.go:234", after := #[{ on := 6, ground := Ground.guard }], guard := some (6, true) }) (v := undef) rfl (by kernel_rfl) (by kernel_rfl) (by kernel_rfl) (fun _ _ _ h => h) (Or.inr ⟨by rfl, rfl⟩) (by assumption) ?_
                          try simp only [Act.put, List.setIfInBounds_toArray, List.set_cons_zero, List.set_cons_succ]
                          refine wpAnyH_take (i := 18) (oi := { dst := some 87, op := Op.indexAddr 49 (Operand.tmp 85) (Operand.tmp 86), type := 0, pos := "l4_want.go:234", after := #[{ on := 16, ground := Ground.data }, { on := 17, ground := Ground.data }, { on := 6, ground := Ground.guard }], guard := some (6, true) }) (v := undef) rfl (by kernel_rfl) (by kernel_rfl) (by kernel_rfl) (fun _ _ _ h => h) (Or.inr ⟨by rfl, rfl⟩) (by assumption) ?_
                          try simp only [Act.put, List.setIfInBounds_toArray, List.set_cons_zero, List.set_cons_succ]
                          refine wpAnyH_take (i := 19) (oi := { dst := some 88, op := Op.fieldAddr 59 (Operand.tmp 87) 2, type := 0, pos := "l4_want.go:234", after := #[{ on := 18, ground := Ground.data }, { on := 6, ground := Ground.guard }], guard := some (6, true) }) (v := undef) rfl (by kernel_rfl) (by kernel_rfl) (by kernel_rfl) (fun _ _ _ h => h) (Or.inr ⟨by rfl, rfl⟩) (by assumption) ?_
                          try simp only [Act.put, List.setIfInBounds_toArray, List.set_cons_zero, List.set_cons_succ]
                          refine wpAnyH_take (i := 20) (oi := { dst := some 89, op := Op.fieldAddr 50 (Operand.tmp 88) 0, type := 0, pos := "l4_want.go:234", after := #[{ on := 19, ground := Ground.data }, { on := 6, ground := Ground.guard }], guard := some (6, true) }) (v := undef) rfl (by kernel_rfl) (by kernel_rfl) (by kernel_rfl) (fun _ _ _ h => h) (Or.inr ⟨by rfl, rfl⟩) (by assumption) ?_
                          try simp only [Act.put, List.setIfInBounds_toArray, List.set_cons_zero, List.set_cons_succ]
                          refine wpAnyH_take (i := 21) (oi := { dst := some 90, op := Op.load 3 (Operand.tmp 89), type := 3, pos := "l4_want.go:234", after := #[{ on := 20, ground := Ground.data }, { on := 6, ground := Ground.guard }], guard := some (6, true) }) (v := undef) rfl (by kernel_rfl) (by kernel_rfl) (by kernel_rfl) (fun _ _ _ h => h) (Or.inr ⟨by rfl, rfl⟩) (by assumption) ?_
                          try simp only [Act.put, List.setIfInBounds_toArray, List.set_cons_zero, List.set_cons_succ]
                          refine wpAnyH_take (i := 22) (oi := { dst := some 91, op := Op.binOp BinOp.eql 3 (Operand.tmp 90) (Operand.const (Value.int IntKind.i64 0)) 3, type := 4, pos := "l4_want.go:234", after := #[{ on := 21, ground := Ground.data }, { on := 6, ground := Ground.guard }], guard := some (6, true) }) (v := undef) rfl (by kernel_rfl) (by kernel_rfl) (by kernel_rfl) (fun _ _ _ h => h) (Or.inr ⟨by rfl, rfl⟩) (by assumption) ?_
                          try simp only [Act.put, List.setIfInBounds_toArray, List.set_cons_zero, List.set_cons_succ]
                          refine wpAnyH_take (i := 23) (oi := { dst := some 92, op := Op.binOp BinOp.neq 4 (Operand.tmp 83) (Operand.tmp 91) 4, type := 4, pos := "l4_want.go:234", after := #[{ on := 14, ground := Ground.data }, { on := 22, ground := Ground.data }, { on := 6, ground := Ground.guard }], guard := some (6, true) }) (v := undef) rfl (by kernel_rfl) (by kernel_rfl) (by kernel_rfl) (fun _ _ _ h => h) (Or.inr ⟨by rfl, rfl⟩) (by assumption) ?_
                          try simp only [Act.put, List.setIfInBounds_toArray, List.set_cons_zero, List.set_cons_succ]
                          refine wpAnyH_take (i := 24) (oi := { dst := some 93, op := Op.pick (Operand.tmp 75) (Operand.tmp 92) (Operand.const (Value.bool false)), type := 4, pos := "l4_want.go:234", after := #[{ on := 6, ground := Ground.data }, { on := 23, ground := Ground.data }], guard := none }) (v := ?_) rfl (by kernel_rfl) (by kernel_rfl) (by kernel_rfl) (fun _ _ _ h => h) (Or.inl ⟨by rfl, ?_⟩) (by assumption) ?_
                          rotate_left
                          · intro wq hSw
                            (try dsimp only at hSw)
                            go_simp
                            try with_reducible rfl
                          try simp only [Act.put, List.setIfInBounds_toArray, List.set_cons_zero, List.set_cons_succ]
                          refine wpAnyH_done (by kernel_rfl) ?_ _
                          clear hHeld
                          go_wp2
                          go_roundw
                          case rel => exact ⟨k + 1, by omega, by go_num, hbk.drew, hyk⟩
                          case measure => simp [intOf]; omega
                        · rw [hh] at g0
                          refine wp_region_held_drew (S := (fun u => u.cell? ⟨w.heap.size, 0, none⟩ = some (.slice a fs.length cap) ∧ u.cell? ⟨wo.heap.size, 5, none⟩ = some (.slice (some ⟨lb, lo, none⟩) x.ls.length ci) ∧ u.cell? ⟨lb, lo + k * 4, none⟩ = some (.bool true) ∧ u.cell? ⟨lb, lo + k * 4 + 1, none⟩ = some (.string y.nm) ∧ u.cell? ⟨lb, lo + k * 4 + 2, none⟩ = some (.int .i64 y.cd))) (by kernel_rfl) ?_ (fun hHeld => ?_)
                          · ((try dsimp only); go_keep)
                          refine wpAnyH_take (i := 0) (oi := { dst := some 69, op := Op.fieldAddr 52 (Operand.tmp 6) 3, type := 0, pos := "l4_want.go:234", after := #[], guard := none }) (v := ?_) rfl (by kernel_rfl) (by kernel_rfl) (by kernel_rfl) (fun _ _ _ h => h) (Or.inl ⟨by rfl, ?_⟩) (by assumption) ?_
                          rotate_left
                          · intro wq hSw
                            (try dsimp only at hSw)
                            go_simp
                            try with_reducible rfl
                          try simp only [Act.put, List.setIfInBounds_toArray, List.set_cons_zero, List.set_cons_succ]
                          refine wpAnyH_take (i := 1) (oi := { dst := some 70, op := Op.load 49 (Operand.tmp 69), type := 49, pos := "l4_want.go:234", after := #[{ on := 0, ground := Ground.data }], guard := none }) (v := ?_) rfl (by kernel_rfl) (by kernel_rfl) (by kernel_rfl) (fun _ _ _ h => h) (Or.inl ⟨by rfl, ?_⟩) (by assumption) ?_
                          rotate_left
                          · intro wq hSw
                            (try dsimp only at hSw)
                            go_simp
                            try with_reducible rfl
                          try simp only [Act.put, List.setIfInBounds_toArray, List.set_cons_zero, List.set_cons_succ]
                          refine wpAnyH_take (i := 2) (oi := { dst := some 71, op := Op.move (Operand.tmp 11), type := 3, pos := "l4_want.go:234", after := #[], guard := none }) (v := ?_) rfl (by kernel_rfl) (by kernel_rfl) (by kernel_rfl) (fun _ _ _ h => h) (Or.inl ⟨by rfl, ?_⟩) (by assumption) ?_
                          rotate_left
                          · intro wq hSw
                            (try dsimp only at hSw)
                            go_simp
                            try with_reducible rfl
                          try simp only [Act.put, List.setIfInBounds_toArray, List.set_cons_zero, List.set_cons_succ]
                          refine wpAnyH_take (i := 3) (oi := { dst := some 72, op := Op.indexAddr 49 (Operand.tmp 70) (Operand.tmp 71), type := 0, pos := "l4_want.go:234", after := #[{ on := 1, ground := Ground.data }, { on := 2, ground := Ground.data }], guard := none }) (v := ?_) rfl (by kernel_rfl) (by kernel_rfl) (by kernel_rfl) (fun _ _ _ h => h) (Or.inl ⟨by rfl, ?_⟩) (by assumption) ?_
                          rotate_left
                          · intro wq hSw
                            (try dsimp only at hSw)
                            go_simp
                            try with_reducible rfl
                          try simp only [Act.put, List.setIfInBounds_toArray, List.set_cons_zero, List.set_cons_succ]
                          refine wpAnyH_take (i := 4) (oi := { dst := some 73, op := Op.fieldAddr 59 (Operand.tmp 72) 0, type := 0, pos := "l4_want.go:234", after := #[{ on := 3, ground := Ground.data }], guard := none }) (v := ?_) rfl (by kernel_rfl) (by kernel_rfl) (by kernel_rfl) (fun _ _ _ h => h) (Or.inl ⟨by rfl, ?_⟩) (by assumption) ?_
                          rotate_left
                          · intro wq hSw
                            (try dsimp only at hSw)
                            go_simp
                            try with_reducible rfl
                          try simp only [Act.put, List.setIfInBounds_toArray, List.set_cons_zero, List.set_cons_succ]
                          refine wpAnyH_take (i := 5) (oi := { dst := some 74, op := Op.load 4 (Operand.tmp 73), type := 4, pos := "l4_want.go:234", after := #[{ on := 4, ground := Ground.data }], guard := none }) (v := ?_) rfl (by kernel_rfl) (by kernel_rfl) (by kernel_rfl) (fun _ _ _ h => h) (Or.inl ⟨by rfl, ?_⟩) (by assumption) ?_
                          rotate_left
                          · intro wq hSw
                            (try dsimp only at hSw)
                            go_simp
                            try with_reducible rfl
                          try simp only [Act.put, List.setIfInBounds_toArray, List.set_cons_zero, List.set_cons_succ]
                          refine wpAnyH_take (i := 6) (oi := { dst := some 75, op := Op.move (Operand.tmp 74), type := 4, pos := "l4_want.go:234", after := #[{ on := 5, ground := Ground.data }], guard := none }) (v := ?_) rfl (by kernel_rfl) (by kernel_rfl) (by kernel_rfl) (fun _ _ _ h => h) (Or.inl ⟨by rfl, ?_⟩) (by assumption) ?_
                          rotate_left
                          · intro wq hSw
                            (try dsimp only at hSw)
                            go_simp
                            try with_reducible rfl
                          try simp only [Act.put, List.setIfInBounds_toArray, List.set_cons_zero, List.set_cons_succ]
                          refine wpAnyH_take (i := 7) (oi := { dst := some 76, op := Op.load 31 (Operand.tmp 2), type := 31, pos := "l4_want.go:234", after := #[{ on := 6, ground := Ground.guard }], guard := some (6, true) }) (v := ?_) rfl (by kernel_rfl) (by kernel_rfl) (by kernel_rfl) (fun _ _ _ h => h) (Or.inl ⟨by rfl, ?_⟩) (by assumption) ?_
                          rotate_left
                          · intro wq hSw
                            (try dsimp only at hSw)
                            go_simp
                            try with_reducible rfl
                          try simp only [Act.put, List.setIfInBounds_toArray, List.set_cons_zero, List.set_cons_succ]
                          refine wpAnyH_take (i := 8) (oi := { dst := some 77, op := Op.fieldAddr 52 (Operand.tmp 6) 3, type := 0, pos := "l4_want.go:234", after := #[{ on := 6, ground := Ground.guard }], guard := some (6, true) }) (v := ?_) rfl (by kernel_rfl) (by kernel_rfl) (by kernel_rfl) (fun _ _ _ h => h) (Or.inl ⟨by rfl, ?_⟩) (by assumption) ?_
                          rotate_left
                          · intro wq hSw
                            (try dsimp only at hSw)
                            go_simp
                            try with_reducible rfl
                          try simp only [Act.put, List.setIfInBounds_toArray, List.set_cons_zero, List.set_cons_succ]
                          refine wpAnyH_take (i := 9) (oi := { dst := some 78, op := Op.load 49 (Operand.tmp 77), type := 49, pos := "l4_want.go:234", after := #[{ on := 8, ground := Ground.data }, { on := 6, ground := Ground.guard }], guard := some (6, true) }) (v := ?_) rfl (by kernel_rfl) (by kernel_rfl) (by kernel_rfl) (fun _ _ _ h => h) (Or.inl ⟨by rfl, ?_⟩) (by assumption) ?_
                          rotate_left
                          · intro wq hSw
                            (try dsimp only at hSw)
                            go_simp
                            try with_reducible rfl
                          try simp only [Act.put, List.setIfInBounds_toArray, List.set_cons_zero, List.set_cons_succ]
                          refine wpAnyH_take (i := 10) (oi := { dst := some 79, op := Op.move (Operand.tmp 11), type := 3, pos := "l4_want.go:234", after := #[{ on := 6, ground := Ground.guard }], guard := some (6, true) }) (v := ?_) rfl (by kernel_rfl) (by kernel_rfl) (by kernel_rfl) (fun _ _ _ h => h) (Or.inl ⟨by rfl, ?_⟩) (by assumption) ?_
                          rotate_left
                          · intro wq hSw
                            (try dsimp only at hSw)
                            go_simp
                            try with_reducible rfl
                          try simp only [Act.put, List.setIfInBounds_toArray, List.set_cons_zero, List.set_cons_succ]
                          refine wpAnyH_take (i := 11) (oi := { dst := some 80, op := Op.indexAddr 49 (Operand.tmp 78) (Operand.tmp 79), type := 0, pos := "l4_want.go:234", after := #[{ on := 9, ground := Ground.data }, { on := 10, ground := Ground.data }, { on := 6, ground := Ground.guard }], guard := some (6, true) }) (v := ?_) rfl (by kernel_rfl) (by kernel_rfl) (by kernel_rfl) (fun _ _ _ h => h) (Or.inl ⟨by rfl, ?_⟩) (by assumption) ?_
                          rotate_left
                          · intro wq hSw
                            (try dsimp only at hSw)
                            go_simp
                            try with_reducible rfl
                          try simp only [Act.put, List.setIfInBounds_toArray, List.set_cons_zero, List.set_cons_succ]
                          refine wpAnyH_take (i := 12) (oi := { dst := some 81, op := Op.fieldAddr 59 (Operand.tmp 80) 1, type := 0, pos := "l4_want.go:234", after := #[{ on := 11, ground := Ground.data }, { on := 6, ground := Ground.guard }], guard := some (6, true) }) (v := ?_) rfl (by kernel_rfl) (by kernel_rfl) (by kernel_rfl) (fun _ _ _ h => h) (Or.inl ⟨by rfl, ?_⟩) (by assumption) ?_
                          rotate_left
                          · intro wq hSw
                            (try dsimp only at hSw)
                            go_simp
                            try with_reducible rfl
                          try simp only [Act.put, List.setIfInBounds_toArray, List.set_cons_zero, List.set_cons_succ]
                          refine wpAnyH_take (i := 13) (oi := { dst := some 82, op := Op.load 9 (Operand.tmp 81), type := 9, pos := "l4_want.go:234", after := #[{ on := 12, ground := Ground.data }, { on := 6, ground := Ground.guard }], guard := some (6, true) }) (v := ?_) rfl (by kernel_rfl) (by kernel_rfl) (by kernel_rfl) (fun _ _ _ h => h) (Or.inl ⟨by rfl, ?_⟩) (by assumption) ?_
                          rotate_left
                          · intro wq hSw
                            (try dsimp only at hSw)
                            go_simp
                            try with_reducible rfl
                          try simp only [Act.put, List.setIfInBounds_toArray, List.set_cons_zero, List.set_cons_succ]
                          refine wpAnyH_take (i := 15) (oi := { dst := some 84, op := Op.fieldAddr 52 (Operand.tmp 6) 3, type := 0, pos := "l4_want.go:234", after := #[{ on := 6, ground := Ground.guard }], guard := some (6, true) }) (v := ?_) rfl (by kernel_rfl) (by kernel_rfl) (by kernel_rfl) (fun _ _ _ h => h) (Or.inl ⟨by rfl, ?_⟩) (by assumption) ?_
                          rotate_left
                          · intro wq hSw
                            (try dsimp only at hSw)
                            go_simp
                            try with_reducible rfl
                          try simp only [Act.put, List.setIfInBounds_toArray, List.set_cons_zero, List.set_cons_succ]
                          refine wpAnyH_take (i := 16) (oi := { dst := some 85, op := Op.load 49 (Operand.tmp 84), type := 49, pos := "l4_want.go:234", after := #[{ on := 15, ground := Ground.data }, { on := 6, ground := Ground.guard }], guard := some (6, true) }) (v := ?_) rfl (by kernel_rfl) (by kernel_rfl) (by kernel_rfl) (fun _ _ _ h => h) (Or.inl ⟨by rfl, ?_⟩) (by assumption) ?_
                          rotate_left
                          · intro wq hSw
                            (try dsimp only at hSw)
                            go_simp
                            try with_reducible rfl
                          try simp only [Act.put, List.setIfInBounds_toArray, List.set_cons_zero, List.set_cons_succ]
                          refine wpAnyH_take (i := 17) (oi := { dst := some 86, op := Op.move (Operand.tmp 11), type := 3, pos := "l4_want.go:234", after := #[{ on := 6, ground := Ground.guard }], guard := some (6, true) }) (v := ?_) rfl (by kernel_rfl) (by kernel_rfl) (by kernel_rfl) (fun _ _ _ h => h) (Or.inl ⟨by rfl, ?_⟩) (by assumption) ?_
                          rotate_left
                          · intro wq hSw
                            (try dsimp only at hSw)
                            go_simp
                            try with_reducible rfl
                          try simp only [Act.put, List.setIfInBounds_toArray, List.set_cons_zero, List.set_cons_succ]
                          refine wpAnyH_take (i := 18) (oi := { dst := some 87, op := Op.indexAddr 49 (Operand.tmp 85) (Operand.tmp 86), type := 0, pos := "l4_want.go:234", after := #[{ on := 16, ground := Ground.data }, { on := 17, ground := Ground.data }, { on := 6, ground := Ground.guard }], guard := some (6, true) }) (v := ?_) rfl (by kernel_rfl) (by kernel_rfl) (by kernel_rfl) (fun _ _ _ h => h) (Or.inl ⟨by rfl, ?_⟩) (by assumption) ?_
                          rotate_left
                          · intro wq hSw
                            (try dsimp only at hSw)
                            go_simp
                            try with_reducible rfl
                          try simp only [Act.put, List.setIfInBounds_toArray, List.set_cons_zero, List.set_cons_succ]
                          refine wpAnyH_take (i := 19) (oi := { dst := some 88, op := Op.fieldAddr 59 (Operand.tmp 87) 2, type := 0, pos := "l4_want.go:234", after := #[{ on := 18, ground := Ground.data }, { on := 6, ground := Ground.guard }], guard := some (6, true) }) (v := ?_) rfl (by kernel_rfl) (by kernel_rfl) (by kernel_rfl) (fun _ _ _ h => h) (Or.inl ⟨by rfl, ?_⟩) (by assumption) ?_
                          rotate_left
                          · intro wq hSw
                            (try dsimp only at hSw)
                            go_simp
                            try with_reducible rfl
                          try simp only [Act.put, List.setIfInBounds_toArray, List.set_cons_zero, List.set_cons_succ]
                          refine wpAnyH_take (i := 20) (oi := { dst := some 89, op := Op.fieldAddr 50 (Operand.tmp 88) 0, type := 0, pos := "l4_want.go:234", after := #[{ on := 19, ground := Ground.data }, { on := 6, ground := Ground.guard }], guard := some (6, true) }) (v := ?_) rfl (by kernel_rfl) (by kernel_rfl) (by kernel_rfl) (fun _ _ _ h => h) (Or.inl ⟨by rfl, ?_⟩) (by assumption) ?_
                          rotate_left
                          · intro wq hSw
                            (try dsimp only at hSw)
                            go_simp
                            try with_reducible rfl
                          try simp only [Act.put, List.setIfInBounds_toArray, List.set_cons_zero, List.set_cons_succ]
                          refine wpAnyH_take (i := 21) (oi := { dst := some 90, op := Op.load 3 (Operand.tmp 89), type := 3, pos := "l4_want.go:234", after := #[{ on := 20, ground := Ground.data }, { on := 6, ground := Ground.guard }], guard := some (6, true) }) (v := ?_) rfl (by kernel_rfl) (by kernel_rfl) (by kernel_rfl) (fun _ _ _ h => h) (Or.inl ⟨by rfl, ?_⟩) (by assumption) ?_
                          rotate_left
                          · intro wq hSw
                            (try dsimp only at hSw)
                            go_simp
                            try with_reducible rfl
                          try simp only [Act.put, List.setIfInBounds_toArray, List.set_cons_zero, List.set_cons_succ]
                          refine wpAnyH_take (i := 22) (oi := { dst := some 91, op := Op.binOp BinOp.eql 3 (Operand.tmp 90) (Operand.const (Value.int IntKind.i64 0)) 3, type := 4, pos := "l4_want.go:234", after := #[{ on := 21, ground := Ground.data }, { on := 6, ground := Ground.guard }], guard := some (6, true) }) (v := ?_) rfl (by kernel_rfl) (by kernel_rfl) (by kernel_rfl) (fun _ _ _ h => h) (Or.inl ⟨by rfl, ?_⟩) (by assumption) ?_
                          rotate_left
                          · intro wq hSw
                            (try dsimp only at hSw)
                            go_simp
                            try with_reducible rfl
                          try simp only [Act.put, List.setIfInBounds_toArray, List.set_cons_zero, List.set_cons_succ]
                          refine wpAnyH_ready (rs := [14]) (by kernel_rfl) (by simp) ?_
                          refine AllReadyH.cons (o := { dst := some 83, op := Op.call { callee := Callee.value (Operand.func 18), args := #[Operand.tmp 76, Operand.tmp 82], argTypes := #[31, 9] }, type := 4, pos := "l4_want.go:234", after := #[{ on := 7, ground := Ground.data }, { on := 13, ground := Ground.data }, { on := 6, ground := Ground.chain }, { on := 6, ground := Ground.guard }], guard := some (6, true) }) rfl (fun K hK => ?_) AllReadyH.nil
                          go_simp
                          refine (c18 a cap fs y.nm _ hl HS.out (files_below HAT.out hBk.drew)).mono ?_
                          rintro e w5 ⟨hr0, hb5⟩
                          obtain ⟨r, rfl, hr⟩ := is18_thing HPT.out hr0
                          have HP : Hid (r = true ↔ Thing fs ms y.nm) := hr
                          have HB5 : Hid (Below wr.heap.size wr w5) := ((Below.refl _ _).drew).trans hb5
                          have r0 := (HB5.out.cell (p := ⟨w.heap.size, 0, none⟩) (by exact hzk0)).trans q0
                          have r1 := (HB5.out.cell (p := ⟨wo.heap.size, 5, none⟩) (by exact hzk1)).trans q5
                          have r2 := (HB5.out.cell (p := ⟨lb, lo + k * 4, none⟩) (by exact hzk2)).trans g0
                          have r3 := (HB5.out.cell (p := ⟨lb, lo + k * 4 + 1, none⟩) (by exact hzk2)).trans g1
                          have r4 := (HB5.out.cell (p := ⟨lb, lo + k * 4 + 2, none⟩) (by exact hzk2)).trans g2
                          clear hr0 hr hb5
                          go_wp2_with fail
                          clear hHeld
                          refine hK.out _ _ ?_ (fun hHeld => ?_)
                          · ((try dsimp only); go_keep)
                          clear hK K
                          try simp only [Act.put, List.setIfInBounds_toArray, List.set_cons_zero, List.set_cons_succ]
                          refine wpAnyH_take (i := 23) (oi := { dst := some 92, op := Op.binOp BinOp.neq 4 (Operand.tmp 83) (Operand.tmp 91) 4, type := 4, pos := "l4_want.go:234", after := #[{ on := 14, ground := Ground.data }, { on := 22, ground := Ground.data }, { on := 6, ground := Ground.guard }], guard := some (6, true) }) (v := ?_) rfl (by kernel_rfl) (by kernel_rfl) (by kernel_rfl) (fun _ _ _ h => h) (Or.inl ⟨by rfl, ?_⟩) (by assumption) ?_
                          rotate_left
                          · intro wq hSw
                            (try dsimp only at hSw)
                            go_simp
                            try with_reducible rfl
                          try simp only [Act.put, List.setIfInBounds_toArray, List.set_cons_zero, List.set_cons_succ]
                          refine wpAnyH_take (i := 24) (oi := { dst := some 93, op := Op.pick (Operand.tmp 75) (Operand.tmp 92) (Operand.const (Value.bool false)), type := 4, pos := "l4_want.go:234", after := #[{ on := 6, ground := Ground.data }, { on := 23, ground := Ground.data }], guard := none }) (v := ?_) rfl (by kernel_rfl) (by kernel_rfl) (by kernel_rfl) (fun _ _ _ h => h) (Or.inl ⟨by rfl, ?_⟩) (by assumption) ?_
                          rotate_left
                          · intro wq hSw
                            (try dsimp only at hSw)
                            go_simp
                            try with_reducible rfl
                          try simp only [Act.put, List.setIfInBounds_toArray, List.set_cons_zero, List.set_cons_succ]
                          refine wpAnyH_done (by kernel_rfl) ?_ _
                          have hB5 : Below w.heap.size w w5 := hBk.trans (HB5.out.mono hBk.size)
                          have hU5 : Below V3.heap.size V3 w5 := hbk.trans (HB5.out.mono hbk.size)
                          cases hz : (y.cd == 0)
                          · have hcd : y.cd ≠ 0 := fun h => by rw [h] at hz; cases hz
                            have HG : Hid (LookStd fs ms y ↔ r = false) := look_not hh HP.out hcd
                            clear hHeld hz
                            cases r
                            · have hyk : Hid (∀ j, j < k + 1 → LookStd fs ms (x.ls.getD j l4z)) := HYK.out (HG.out.2 rfl)
                              go_wp2
                              go_roundw
                              case rel => exact ⟨k + 1, by omega, by go_num, hU5, hyk⟩
                              case measure => simp [intOf]; omega
                            · have hno : Hid (IsSt fs is (.returned (.bool false))) := HNK.out fun h => by have := HG.out.1 h; cases this
                              go_wp2
                              go_ret
                              exact ⟨hno.out, hB5⟩
                          · have hcd : y.cd = 0 := beq_iff_eq.1 hz
                            have HG : Hid (LookStd fs ms y ↔ r = true) := look_zero hh HP.out hcd
                            clear hHeld hz
                            cases r
                            · have hno : Hid (IsSt fs is (.returned (.bool false))) := HNK.out fun h => by have := HG.out.1 h; cases this
                              go_wp2
                              go_ret
                              exact ⟨hno.out, hB5⟩
                            · have hyk : Hid (∀ j, j < k + 1 → LookStd fs ms (x.ls.getD j l4z)) := HYK.out (HG.out.2 rfl)
                              go_wp2
                              go_roundw
                              case rel => exact ⟨k + 1, by omega, by go_num, hU5, hyk⟩
                              case measure => simp [intOf]; omega
                      · have hyes : Hid (∀ j, j < q + 1 → Dn fs (is.getD j d8z)) := HY.out ⟨hn, fun ms' h' => by
                          obtain rfl := isPT_one HPT.out h'
                          obtain ⟨i, hi, hmi, hmn⟩ := HMI.out
                          exact (std_made (isPT_asc h') hi (by rw [hmi]; exact hmn) hmade (fun j hj => hdk.out j (by omega))).2 (HME.out.symm.trans hmi.symm)⟩
                        go_wp2
                        go_roundw
                        case rel => exact ⟨q + 1, by omega, by go_num, hUk, hyes⟩
                        case measure => simp [intOf]; omega
                  · have hno : Hid (IsSt fs is (.returned (.bool false))) := HNE.out fun h => e3 (by rw [h])
                    go_wp2
                    go_ret
                    exact ⟨hno.out, hB3.alloc hB3.size _⟩
                · have hno : Hid (IsSt fs is (.returned (.bool false))) := HNE.out fun h => e2 (by rw [h])
                  go_wp2
                  go_ret
                  exact ⟨hno.out, hB3.alloc hB3.size _⟩
              · have hno : Hid (IsSt fs is (.returned (.bool false))) := HNE.out fun h => e1 (by rw [h])
                go_wp2
                go_ret
                exact ⟨hno.out, hB3.alloc hB3.size _⟩
      · have hyes : Hid (IsSt fs is (.returned (.bool true))) := ⟨true, rfl, ⟨fun _ => ⟨HOK.out, fun j hj => hdone.out j (by omega)⟩, fun _ => rfl⟩⟩
        go_wp2
        go_ret
        exact ⟨hyes.out, hBr⟩
end Go.Proofs.YtggcgnfockpgmaaGreatDoor
namespace Go.Proofs.YtggcgnfockpgmaaGreatDoor
open Go.RowKit
open T (F2 f2z FilesAt Asc files_below treeOk)
set_option maxHeartbeats 4000000 in
set_option maxRecDepth 100000 in
theorem c3 (a da : Option Addr) (cap dc : Nat) (fs : List F2) (is : List D8) (w : World) (hs : ∀ i, (fs.getD i f2z).le 9223372036854775807) (hl : fs.length ≤ 9223372036854775807) (hat : FilesAt w a fs) (hsd : ∀ i, (is.getD i d8z).le 9223372036854775807) (hld : is.length ≤ 9223372036854775807) (hda : DeedsAt w da is) (hv : VarsZ w) :
    Calls Tryz.prog 3 #[.agg #[.slice a fs.length cap], .slice da is.length dc] w fun e w' => e = .returned (.bool true) ∧ Below w.heap.size w w' := by
  have HV : Hid (VarsZ w) := hv
  have HAT : Hid (FilesAt w a fs) := hat
  have HDA : Hid (DeedsAt w da is) := hda
  have hB0 : ∀ o, Below w.heap.size w (w.alloc o) := fun o => (Below.refl _ _).alloc (Nat.le_refl _) _
  have h4 := fun u (hb : Below w.heap.size w u) => T.c4 a cap fs u hs hl (files_below HAT.out hb)
  have HSD : Hid (∀ i, (is.getD i d8z).le 9223372036854775807) := hsd
  clear hv hat hda hs hsd
  go_enter Tryz.func3, Tryz.ntmps3
  go_wp2_with fail
  refine (h4 _ (hB0 _)).mono ?_
  rintro e w1 ⟨⟨r, rfl, hr⟩, hb1⟩
  have hx1 : Below (w.heap.size + 1) (w.alloc (.cells #[.slice a fs.length cap] 24)) w1 := by have h := hb1; simp at h; exact h
  have hB1 : Below w.heap.size w w1 := (hB0 _).trans (hx1.mono (by omega))
  have hz1 : w.heap.size < w1.heap.size := by have := hx1.size; simp at this; omega
  have t1 : w1.cell? ⟨w.heap.size, 0, none⟩ = some (.slice a fs.length cap) := (hx1.cell (p := ⟨w.heap.size, 0, none⟩) (by simp)).trans (by simp [go_sem])
  clear hb1 h4 hx1
  by_cases h0 : 0 ≤ r
  · obtain ⟨hl', hs', hr'⟩ := hr h0
    have HSS : Hid (∀ i, (fs.getD i f2z).le 1048576) := hs'
    clear hr hl hs'
    go_wp2_with fail
    refine (c5 da dc is r w1 h0 hr' HSD.out hld (deeds_below HDA.out hB1)).mono ?_
    rintro e w2 ⟨⟨r2, rfl, hr2⟩, hb2⟩
    have hB2 : Below w.heap.size w w2 := hB1.trans (hb2.mono hB1.size)
    have hz2 : w.heap.size < w2.heap.size := Nat.lt_of_lt_of_le hz1 hb2.size
    have t2 := (hb2.cell (p := ⟨w.heap.size, 0, none⟩) (by exact hz1)).trans t1
    clear hb2 t1 HSD
    by_cases h02 : 0 ≤ r2
    · obtain ⟨hld', hsd', hr2'⟩ := hr2 h02
      have HSD : Hid (∀ i, (is.getD i d8z).le 1048576) := hsd'
      clear hr2 hld hsd'
      go_wp2_with fail
      refine (T.c7 a cap fs w2 hl' (files_below HAT.out hB2)).mono ?_
      rintro e wa ⟨⟨aa, rfl, hfa⟩, hba⟩
      have hBa : Below w.heap.size w wa := hB2.trans (hba.mono hB2.size)
      have hza : w.heap.size < wa.heap.size := Nat.lt_of_lt_of_le hz2 hba.size
      have ta := (hba.cell (p := ⟨w.heap.size, 0, none⟩) (by exact hz2)).trans t2
      have HFA : Hid (FilesAt wa aa fs) := hfa
      clear hba hfa t2
      go_wp2_with fail
      refine (c8 da dc is wa hld' HSD.out (deeds_below HDA.out hBa)).mono ?_
      rintro e wb ⟨⟨rfl, hdn⟩, hbb⟩
      have hBb : Below w.heap.size w wb := hBa.trans (hbb.mono hBa.size)
      have hzb : w.heap.size < wb.heap.size := Nat.lt_of_lt_of_le hza hbb.size
      have tb := (hbb.cell (p := ⟨w.heap.size, 0, none⟩) (by exact hza)).trans ta
      have HFB : Hid (FilesAt wb aa fs) := files_below HFA.out hbb
      have HDB : Hid (DeedsAt wb (some ⟨wa.heap.size, 0, none⟩) is) := hdn.deeds
      clear hbb hdn ta HFA
      go_wp2_with fail
      refine (c6 aa (some ⟨wa.heap.size, 0, none⟩) fs.length is.length fs is wb hl' HSS.out HFB.out hld' HSD.out HDB.out).mono ?_
      rintro e wc ⟨⟨g, rfl, hg⟩, hbc⟩
      have HG : Hid (g = true ↔ StdAll fs is) := hg
      have hBc : Below w.heap.size w wc := hBb.trans (hbc.mono hBb.size)
      have hzc : w.heap.size < wc.heap.size := Nat.lt_of_lt_of_le hzb hbc.size
      have tc := (hbc.cell (p := ⟨w.heap.size, 0, none⟩) (by exact hzb)).trans tb
      clear hbc tb hg HFB HDB
      go_wp2_with fail
      refine (T.c7 a cap fs wc hl' (files_below HAT.out hBc)).mono ?_
      rintro e wd ⟨⟨ax, rfl, hfx⟩, hbd⟩
      have hBd : Below w.heap.size w wd := hBc.trans (hbd.mono hBc.size)
      have hzd : w.heap.size < wd.heap.size := Nat.lt_of_lt_of_le hzc hbd.size
      have td := (hbd.cell (p := ⟨w.heap.size, 0, none⟩) (by exact hzc)).trans tc
      have HFX : Hid (FilesAt wd ax fs) := hfx
      clear hbd tc hfx
      go_wp2_with fail
      have hXd : Below wd.heap.size wd (wd.alloc (.cells #[.slice ax fs.length fs.length] 31)) := (Below.refl _ _).alloc (Nat.le_refl _) _
      have hBX : Below w.heap.size w (wd.alloc (.cells #[.slice ax fs.length fs.length] 31)) := hBd.alloc hBd.size _
      have hzX : wd.heap.size < (wd.alloc (.cells #[.slice ax fs.length fs.length] 31)).heap.size := by simp
      have tX := (cell_al hzd 0 (.cells #[.slice ax fs.length fs.length] 31)).trans td
      have xX : (wd.alloc (.cells #[.slice ax fs.length fs.length] 31)).cell? ⟨wd.heap.size, 0, none⟩ = some (.slice ax fs.length fs.length) := by simp [go_sem]
      have HFY : Hid (FilesAt (wd.alloc (.cells #[.slice ax fs.length fs.length] 31)) ax fs) := files_below HFX.out hXd
      generalize (wd.alloc (.cells #[.slice ax fs.length fs.length] 31)) = X at *
      clear HFX hXd td
      refine (c8 da dc is X hld' HSD.out (deeds_below HDA.out hBX)).mono ?_
      rintro e we ⟨⟨rfl, hdn⟩, hbe⟩
      have hBe : Below w.heap.size w we := hBX.trans (hbe.mono hBX.size)
      have hze : wd.heap.size < we.heap.size := Nat.lt_of_lt_of_le hzX hbe.size
      have te := (hbe.cell (p := ⟨w.heap.size, 0, none⟩) (by show w.heap.size < X.heap.size; omega)).trans tX
      have xe := (hbe.cell (p := ⟨wd.heap.size, 0, none⟩) (by exact hzX)).trans xX
      have HFE : Hid (FilesAt we ax fs) := files_below HFY.out hbe
      have HDE : Hid (DeedsAt we (some ⟨X.heap.size, 0, none⟩) is) := hdn.deeds
      clear hbe hdn tX xX HFY
      go_wp2_with fail
      refine (c9 ax (some ⟨X.heap.size, 0, none⟩) fs.length is.length fs is we hl' HSS.out HFE.out hld' HSD.out HDE.out (HV.out.below hBe)).mono ?_
      rintro e wf ⟨⟨g', rfl, hg'⟩, hbf⟩
      obtain rfl : g = g' := by
        have hh := HG.out.trans hg'.symm
        cases g <;> cases g' <;> simp_all
      have hBf : Below w.heap.size w wf := hBe.trans (hbf.mono hBe.size)
      have hzf : wd.heap.size < wf.heap.size := Nat.lt_of_lt_of_le hze hbf.size
      have tf := (hbf.cell (p := ⟨w.heap.size, 0, none⟩) (by show w.heap.size < we.heap.size; omega)).trans te
      have xf := (hbf.cell (p := ⟨wd.heap.size, 0, none⟩) (by exact hze)).trans xe
      have HFF : Hid (FilesAt wf ax fs) := files_below HFE.out hbf
      have HDF : Hid (DeedsAt wf (some ⟨X.heap.size, 0, none⟩) is) := deeds_below HDE.out hbf
      have hzf' : w.heap.size < wf.heap.size := by omega
      clear hbf te xe hg' HFE HDE HG
      cases g
      all_goals go_wp2_with fail
      all_goals go_region_held3 (fun u => u.cell? ⟨w.heap.size, 0, none⟩ = some (.slice a fs.length cap) ∧ u.cell? ⟨wd.heap.size, 0, none⟩ = some (.slice ax fs.length fs.length)) (go_keep) (first | (go_at_call 7; refine (T.c7 a cap fs _ hl' (files_below HAT.out hBf.drew)).mono ?_; rintro e wg ⟨⟨ay, rfl, hfy⟩, hbg⟩; have HBG : Hid (Below wf.heap.size wf wg) := (Below.refl _ _).drew.trans hbg; have HFG : Hid (FilesAt wg ay fs) := hfy; have f1 := (HBG.out.cell (p := ⟨w.heap.size, 0, none⟩) (by exact hzf')).trans tf; have f2 := (HBG.out.cell (p := ⟨wd.heap.size, 0, none⟩) (by exact hzf)).trans xf; clear hfy hbg) | (go_at_call 10; refine (T.c10 ax ay fs.length fs.length fs wg hl' (files_below HFF.out HBG.out) HFG.out).mono ?_; rintro e wh ⟨rfl, hbh⟩; have f3 := (hbh.cell (p := ⟨w.heap.size, 0, none⟩) (by have := HBG.out.size; show w.heap.size < wg.heap.size; omega)).trans f1; have f4 := (hbh.cell (p := ⟨wd.heap.size, 0, none⟩) (by have := HBG.out.size; show wd.heap.size < wg.heap.size; omega)).trans f2))
      all_goals have hfh : Below wf.heap.size wf wh := HBG.out.trans (hbh.mono HBG.out.size)
      all_goals have hBh : Below w.heap.size w wh := hBf.trans (hfh.mono hBf.size)
      all_goals have HDH : Hid (DeedsAt wh (some ⟨X.heap.size, 0, none⟩) is) := deeds_below HDF.out hfh
      all_goals clear hbh HBG HFG f1 f2 f3 f4 hfh
      all_goals go_wp2_with fail
      all_goals refine (c8 da dc is wh hld' HSD.out (deeds_below HDA.out hBh)).mono ?_
      all_goals rintro e wi ⟨⟨rfl, hdn⟩, hbi⟩
      all_goals have hBi : Below w.heap.size w wi := hBh.trans (hbi.mono hBh.size)
      all_goals have HDI : Hid (DeedsAt wi (some ⟨X.heap.size, 0, none⟩) is) := deeds_below HDH.out hbi
      all_goals have HDJ : Hid (DeedsAt wi (some ⟨wh.heap.size, 0, none⟩) is) := hdn.deeds
      all_goals clear hdn hbi HDH
      all_goals go_wp2_with fail
      all_goals refine (c11 (some ⟨X.heap.size, 0, none⟩) (some ⟨wh.heap.size, 0, none⟩) is.length is.length is wi hld' HSD.out HDI.out HDJ.out).mono ?_
      all_goals rintro e wj ⟨rfl, hbj⟩
      all_goals have hBj : Below w.heap.size w wj := hBi.trans (hbj.mono hBi.size)
      all_goals go_wp2
      all_goals go_ret
      all_goals exact ⟨rfl, hBj⟩
    · clear hr2
      go_wp2
      go_ret
      exact ⟨rfl, hB2⟩
  · clear hr
    go_wp2
    go_ret
    exact ⟨rfl, hB1⟩
end Go.Proofs.YtggcgnfockpgmaaGreatDoor
namespace Go.Proofs.YtggcgnfockpgmaaGreatDoor.T
open Go.ChangeShapes Go.WideShapes Go.ChangeAt Go.RowKit
theorem cells9 : Tryz.prog.cellsOf 9 = 1 := by kernel_rfl
theorem add_none (b off i : Nat) : (⟨b, off, none⟩ : Addr).add i = ⟨b, off + i, none⟩ := by unfold Addr.add; split <;> simp_all
theorem cells70 : Tryz.prog.cellsOf 70 = 2 := by kernel_rfl
theorem list2 {α : Type} {l : List α} (h : l.length = 2) : ∃ a b, l = [a, b] := by
  rcases l with _ | ⟨a, _ | ⟨b, _ | ⟨c, l⟩⟩⟩
  · cases h
  · cases h
  · exact ⟨a, b, rfl⟩
  · simp at h
theorem file_cells {H : Type} {enc : TypeId × Value → H} {w : World} {base : Nat} {sp : Nat → Bool} {held : Bool} {fuel : Nat} {cs : List Value} {y : DataW H × List MemPlace}
    (h : DataW.trod enc Tryz.prog w base sp held fuel 70 cs = some y) : ∃ x : F2, cs = [.string x.nm, .string x.tx] ∧ x.le maxLen := by
  obtain ⟨y0, y1, n, hx, hlen, h0, h1⟩ := trod_struct2 Tryz.underlying70 h
  rw [cells70] at hlen
  obtain ⟨c0, c1, rfl⟩ := list2 hlen
  simp only [cells9] at h0 h1
  obtain ⟨n0, e0, _, hn⟩ := DataW.trod_string Tryz.underlying9 h0
  obtain ⟨s, e1, _, hs⟩ := DataW.trod_string Tryz.underlying9 h1
  simp at e0 e1
  exact ⟨⟨n0, s⟩, by rw [e0, e1], ⟨hn, hs⟩⟩
/-- A slice of files that came in. -/
theorem opened {H : Type} {enc : TypeId × Value → H} {W : World} {fuel : Nat} {cs : List Value} {y : DataW H × List MemPlace}
    (hf : DataW.trod enc Tryz.prog W 0 (fun _ => true) true fuel 22 cs = some y) :
    ∃ (a : Option Addr) (cap : Nat) (is : List F2), cs = [.slice a is.length cap] ∧ is.length ≤ maxLen ∧ (∀ i, (is.getD i f2z).le maxLen) ∧ FilesAt W a is := by
  rcases Go.Deep.open_slice Tryz.underlying22 hf with ⟨rfl, _⟩ | ⟨a, len, cap, m, n, D, Pl, rfl, _, hl, hm, hmm, _, hx⟩
  · exact ⟨none, 0, [], rfl, Nat.zero_le _, fun i => ⟨by simp [f2z, ByteArray.size], by simp [f2z, ByteArray.size]⟩, .inl rfl⟩
  · simp only [if_true] at hmm
    subst hmm
    have hex : ∀ i, i < m → ∃ x : F2, W.cells? 0 (a.add (i * 2)) 2 = some [.string x.nm, .string x.tx] ∧ x.le maxLen := fun i hi => by
      obtain ⟨cs', h1, h2⟩ := hx i hi
      obtain ⟨x, rfl, hs⟩ := file_cells h2
      rw [cells70] at h1
      exact ⟨x, h1, hs⟩
    obtain ⟨V, hV⟩ := @Go.Deep.choose_lt F2 ⟨f2z⟩ m (fun i x => W.cells? 0 (a.add (i * 2)) 2 = some [.string x.nm, .string x.tx] ∧ x.le maxLen) hex
    have hlen : ((List.range len).map V).length = len := by simp
    have hget : ∀ i, i < len → ((List.range len).map V).getD i f2z = V i := fun i hi => by simp [List.getD, hi]
    refine ⟨some a, m, (List.range len).map V, by rw [hlen], by rw [hlen]; omega, getD_small2 (fun i hi => ?_), ?_⟩
    · rw [hlen] at hi
      rw [hget i hi]
      exact (hV i (by omega)).2
    · rcases Nat.eq_zero_or_pos len with h0 | h0
      · exact .inl (by rw [h0]; rfl)
      · obtain ⟨b, off, spot⟩ := a
        obtain ⟨_, _, hc⟩ := World.cells?_some (hV 0 (by omega)).1
        have hc0 := hc 0 (by omega)
        have hspot : spot = none := by simpa [Addr.add] using World.cell?_spot hc0
        subst hspot
        refine .inr ⟨b, off, rfl, ?_, fun i hi => ?_⟩
        · rw [add_none, add_none] at hc0
          rcases Nat.lt_or_ge b W.heap.size with h | h
          · exact h
          · simp [World.cell?, Array.getElem?_eq_none h] at hc0
        · rw [hlen] at hi
          rw [hget i hi]
          obtain ⟨_, _, hc⟩ := World.cells?_some (hV i (by omega)).1
          have e0 := hc 0 (by omega)
          have e1 := hc 1 (by omega)
          rw [add_none, add_none] at e0 e1
          exact ⟨e0, e1⟩
end Go.Proofs.YtggcgnfockpgmaaGreatDoor.T
namespace Go.Proofs.YtggcgnfockpgmaaGreatDoor.fnExactStands
open Go.ChangeShapes Go.WideShapes Go.ChangeAt Go.RowKit
open T (F2 f2z treeOk Asc FilesAt)
set_option linter.unusedVariables false

theorem cells3 : Tryz.prog.cellsOf 3 = 1 := by kernel_rfl
theorem cells4 : Tryz.prog.cellsOf 4 = 1 := by kernel_rfl
theorem cells9' : Tryz.prog.cellsOf 9 = 1 := by kernel_rfl
theorem cells41 : Tryz.prog.cellsOf 41 = 3 := by kernel_rfl
theorem cells42 : Tryz.prog.cellsOf 42 = 1 := by kernel_rfl
theorem cells44 : Tryz.prog.cellsOf 44 = 2 := by kernel_rfl
theorem cells46 : Tryz.prog.cellsOf 46 = 8 := by kernel_rfl
theorem cells96 : Tryz.prog.cellsOf 96 = 4 := by kernel_rfl
theorem list2' {α : Type} {l : List α} (h : l.length = 2) : ∃ a b, l = [a, b] := by
  match l, h with
  | [a, b], _ => exact ⟨a, b, rfl⟩
theorem list3' {α : Type} {l : List α} (h : l.length = 3) : ∃ a b c, l = [a, b, c] := by
  match l, h with
  | [a, b, c], _ => exact ⟨a, b, c, rfl⟩
theorem list4' {α : Type} {l : List α} (h : l.length = 4) : ∃ a b c d, l = [a, b, c, d] := by
  match l, h with
  | [a, b, c, d], _ => exact ⟨a, b, c, d, rfl⟩
theorem list8' {α : Type} {l : List α} (h : l.length = 8) : ∃ a b c d e f g i, l = [a, b, c, d, e, f, g, i] := by
  match l, h with
  | [a, b, c, d, e, f, g, i], _ => exact ⟨a, b, c, d, e, f, g, i, rfl⟩
theorem struct5 {H : Type} {enc : TypeId × Value → H} {P : Program} {w : World} {base : Nat} {spare : Nat → Bool} {held : Bool} {t : TypeId} {f0 f1 f2 f3 f4 : Field} {fuel : Nat} {cs : List Value} {x : DataW H × List MemPlace} (ht : P.underlying t = some (.struct #[f0, f1, f2, f3, f4])) (h : DataW.trod enc P w base spare held fuel t cs = some x) :
    ∃ y0 y1 y2 y3 y4 n, cs.length = P.cellsOf t ∧ DataW.trod enc P w base spare held n f0.type ((cs.drop f0.offset).take (P.cellsOf f0.type)) = some y0 ∧
      DataW.trod enc P w base spare held n f1.type ((cs.drop f1.offset).take (P.cellsOf f1.type)) = some y1 ∧ DataW.trod enc P w base spare held n f2.type ((cs.drop f2.offset).take (P.cellsOf f2.type)) = some y2 ∧
      DataW.trod enc P w base spare held n f3.type ((cs.drop f3.offset).take (P.cellsOf f3.type)) = some y3 ∧ DataW.trod enc P w base spare held n f4.type ((cs.drop f4.offset).take (P.cellsOf f4.type)) = some y4 := by
  obtain ⟨xs, n, _, rfl, hl, hlen, hf⟩ := DataW.trod_struct ht h
  match xs, hlen with
  | [y0, y1, y2, y3, y4], _ => exact ⟨y0, y1, y2, y3, y4, n, hl, by simpa using hf 0 f0 rfl, by simpa using hf 1 f1 rfl, by simpa using hf 2 f2 rfl, by simpa using hf 3 f3 rfl, by simpa using hf 4 f4 rfl⟩
theorem res_cells {H : Type} {enc : TypeId × Value → H} {w : World} {base : Nat} {sp : Nat → Bool} {held : Bool} {fuel : Nat} {cs : List Value} {y : DataW H × List MemPlace}
    (h : DataW.trod enc Tryz.prog w base sp held fuel 44 cs = some y) : ∃ (c : Int) (t : ByteArray), cs = [.int .i64 c, .string t] ∧ t.size ≤ maxLen := by
  obtain ⟨y0, y1, n, hx, hlen, h0, h1⟩ := trod_struct2 Tryz.underlying44 h
  rw [cells44] at hlen
  obtain ⟨c0, c1, rfl⟩ := list2' hlen
  simp only [cells9', cells3] at h0 h1
  obtain ⟨n0, e0, _, _⟩ := DataW.trod_int Tryz.underlying3 h0
  obtain ⟨s, e1, _, hs⟩ := DataW.trod_string Tryz.underlying9 h1
  simp at e0 e1
  exact ⟨n0, s, by rw [e0, e1], hs⟩
theorem make_cells {H : Type} {enc : TypeId × Value → H} {w : World} {base : Nat} {sp : Nat → Bool} {held : Bool} {fuel : Nat} {cs : List Value} {y : DataW H × List MemPlace}
    (h : DataW.trod enc Tryz.prog w base sp held fuel 41 cs = some y) : ∃ x : M3, cs = [.string x.nm, .string x.tl, .string x.ar] ∧ x.le maxLen := by
  obtain ⟨y0, y1, y2, n, hx, hlen, h0, h1, h2⟩ := Go.Deep.trod_struct3 Tryz.underlying41 h
  rw [cells41] at hlen
  obtain ⟨c0, c1, c2, rfl⟩ := list3' hlen
  simp only [cells9'] at h0 h1 h2
  obtain ⟨s0, e0, _, hs0⟩ := DataW.trod_string Tryz.underlying9 h0
  obtain ⟨s1, e1, _, hs1⟩ := DataW.trod_string Tryz.underlying9 h1
  obtain ⟨s2, e2, _, hs2⟩ := DataW.trod_string Tryz.underlying9 h2
  simp at e0 e1 e2
  exact ⟨⟨s0, s1, s2⟩, by rw [e0, e1, e2], hs0, hs1, hs2⟩
theorem look_cells {H : Type} {enc : TypeId × Value → H} {w : World} {base : Nat} {sp : Nat → Bool} {held : Bool} {fuel : Nat} {cs : List Value} {y : DataW H × List MemPlace}
    (h : DataW.trod enc Tryz.prog w base sp held fuel 96 cs = some y) : ∃ x : L4, cs = [.bool x.has, .string x.nm, .int .i64 x.cd, .string x.tx] ∧ x.le maxLen := by
  obtain ⟨y0, y1, y2, n, hx, hlen, h0, h1, h2⟩ := Go.Deep.trod_struct3 Tryz.underlying96 h
  rw [cells96] at hlen
  obtain ⟨c0, c1, c2, c3, rfl⟩ := list4' hlen
  simp only [cells9', cells4, cells44] at h0 h1 h2
  obtain ⟨s0, e0, _⟩ := DataW.trod_bool Tryz.underlying4 h0
  obtain ⟨s1, e1, _, hs1⟩ := DataW.trod_string Tryz.underlying9 h1
  obtain ⟨c, t, e2, ht⟩ := res_cells h2
  simp at e0 e1 e2
  exact ⟨⟨s0, s1, c, t⟩, by rw [e0, e1, e2.1, e2.2], hs1, ht⟩
theorem add_none' (b off i : Nat) : (⟨b, off, none⟩ : Addr).add i = ⟨b, off + i, none⟩ := by unfold Addr.add; split <;> simp_all
/-- A slice of looks that came in. -/
theorem openedL {H : Type} {enc : TypeId × Value → H} {W : World} {fuel : Nat} {cs : List Value} {y : DataW H × List MemPlace}
    (hf : DataW.trod enc Tryz.prog W 0 (fun _ => true) true fuel 42 cs = some y) :
    ∃ (a : Option Addr) (cap : Nat) (is : List L4), cs = [.slice a is.length cap] ∧ is.length ≤ maxLen ∧ (∀ i, (is.getD i l4z).le maxLen) ∧ LksAt W a is := by
  rcases Go.Deep.open_slice Tryz.underlying42 hf with ⟨rfl, _⟩ | ⟨a, len, cap, m, n, D, Pl, rfl, _, hl, hm, hmm, _, hx⟩
  · exact ⟨none, 0, [], rfl, Nat.zero_le _, getD_smallL (fun i hi => absurd hi (Nat.not_lt_zero _)), .inl rfl⟩
  · simp only [if_true] at hmm
    subst hmm
    have hex : ∀ i, i < m → ∃ x : L4, W.cells? 0 (a.add (i * 4)) 4 = some [.bool x.has, .string x.nm, .int .i64 x.cd, .string x.tx] ∧ x.le maxLen := fun i hi => by
      obtain ⟨cs', h1, h2⟩ := hx i hi
      obtain ⟨x, rfl, hs⟩ := look_cells h2
      rw [cells96] at h1
      exact ⟨x, h1, hs⟩
    obtain ⟨V, hV⟩ := @Go.Deep.choose_lt L4 ⟨l4z⟩ m (fun i x => W.cells? 0 (a.add (i * 4)) 4 = some [.bool x.has, .string x.nm, .int .i64 x.cd, .string x.tx] ∧ x.le maxLen) hex
    have hlen : ((List.range len).map V).length = len := by simp
    have hget : ∀ i, i < len → ((List.range len).map V).getD i l4z = V i := fun i hi => by simp [List.getD, hi]
    refine ⟨some a, m, (List.range len).map V, by rw [hlen], by rw [hlen]; omega, getD_smallL (fun i hi => ?_), ?_⟩
    · rw [hlen] at hi
      rw [hget i hi]
      exact (hV i (by omega)).2
    · rcases Nat.eq_zero_or_pos len with h0 | h0
      · exact .inl (by rw [h0]; rfl)
      · obtain ⟨b, off, spot⟩ := a
        obtain ⟨_, _, hc⟩ := World.cells?_some (hV 0 (by omega)).1
        have hc0 := hc 0 (by omega)
        have hspot : spot = none := by simpa [Addr.add] using World.cell?_spot hc0
        subst hspot
        refine .inr ⟨b, off, rfl, ?_, fun i hi => ?_⟩
        · rw [add_none', add_none'] at hc0
          rcases Nat.lt_or_ge b W.heap.size with h | h
          · exact h
          · simp [World.cell?, Array.getElem?_eq_none h] at hc0
        · rw [hlen] at hi
          rw [hget i hi]
          obtain ⟨_, _, hc⟩ := World.cells?_some (hV i (by omega)).1
          have e0 := hc 0 (by omega)
          have e1 := hc 1 (by omega)
          have e2 := hc 2 (by omega)
          have e3 := hc 3 (by omega)
          rw [add_none', add_none'] at e0 e1 e2 e3
          exact ⟨e0, e1, e2, e3⟩
def dCells (x : D8) (ai : Option Addr) (ci : Nat) : List Value := [.string x.nm, .bool x.made, .string x.km.nm, .string x.km.tl, .string x.km.ar, .slice ai x.ls.length ci, .int .i64 x.cd, .string x.tx]
theorem deed_cells {H : Type} {enc : TypeId × Value → H} {W : World} {fuel : Nat} {cs : List Value} {y : DataW H × List MemPlace}
    (h : DataW.trod enc Tryz.prog W 0 (fun _ => true) true fuel 46 cs = some y) : ∃ x : D8, ∃ ai ci, cs = dCells x ai ci ∧ x.le maxLen ∧ LksAt W ai x.ls := by
  obtain ⟨y0, y1, y2, y3, y4, n, hlen, h0, h1, h2, h3, h4⟩ := struct5 Tryz.underlying46 h
  rw [cells46] at hlen
  obtain ⟨c0, c1, c2, c3, c4, c5, c6, c7, rfl⟩ := list8' hlen
  simp only [cells9', cells4, cells41, cells42, cells44] at h0 h1 h2 h3 h4
  obtain ⟨s0, e0, _, hs0⟩ := DataW.trod_string Tryz.underlying9 h0
  obtain ⟨s1, e1, _⟩ := DataW.trod_bool Tryz.underlying4 h1
  obtain ⟨m, e2, hm⟩ := make_cells h2
  obtain ⟨ai, ci, gs, e3, hl, hs, hat⟩ := openedL h3
  obtain ⟨c, t, e4, ht⟩ := res_cells h4
  simp at e0 e1 e2 e3 e4
  obtain ⟨e20, e21, e22⟩ := e2
  obtain ⟨e40, e41⟩ := e4
  subst e0 e1 e20 e21 e22 e3 e40 e41
  exact ⟨⟨s0, s1, m, gs, c, t⟩, ai, ci, rfl, ⟨hs0, hm, ⟨hl, hs⟩, ht⟩, hat⟩
/-- A slice of deeds that came in. -/
theorem openedD {H : Type} {enc : TypeId × Value → H} {W : World} {fuel : Nat} {cs : List Value} {y : DataW H × List MemPlace}
    (hf : DataW.trod enc Tryz.prog W 0 (fun _ => true) true fuel 25 cs = some y) :
    ∃ (a : Option Addr) (cap : Nat) (is : List D8), cs = [.slice a is.length cap] ∧ is.length ≤ maxLen ∧ (∀ i, (is.getD i d8z).le maxLen) ∧ DeedsAt W a is := by
  rcases Go.Deep.open_slice Tryz.underlying25 hf with ⟨rfl, _⟩ | ⟨a, len, cap, m, n, D, Pl, rfl, _, hl, hm, hmm, _, hx⟩
  · exact ⟨none, 0, [], rfl, Nat.zero_le _, getD_smallD (fun i hi => absurd hi (Nat.not_lt_zero _)), .inl rfl⟩
  · simp only [if_true] at hmm
    subst hmm
    have hex : ∀ i, i < m → ∃ x : D8, ∃ ai ci, W.cells? 0 (a.add (i * 8)) 8 = some (dCells x ai ci) ∧ x.le maxLen ∧ LksAt W ai x.ls := fun i hi => by
      obtain ⟨cs', h1, h2⟩ := hx i hi
      obtain ⟨x, ai, ci, rfl, hs, hg⟩ := deed_cells h2
      rw [cells46] at h1
      exact ⟨x, ai, ci, h1, hs, hg⟩
    obtain ⟨V, hV⟩ := @Go.Deep.choose_lt D8 ⟨d8z⟩ m (fun i x => ∃ ai ci, W.cells? 0 (a.add (i * 8)) 8 = some (dCells x ai ci) ∧ x.le maxLen ∧ LksAt W ai x.ls) hex
    have hlen : ((List.range len).map V).length = len := by simp
    have hget : ∀ i, i < len → ((List.range len).map V).getD i d8z = V i := fun i hi => by simp [List.getD, hi]
    refine ⟨some a, m, (List.range len).map V, by rw [hlen], by rw [hlen]; omega, getD_smallD (fun i hi => ?_), ?_⟩
    · rw [hlen] at hi
      rw [hget i hi]
      obtain ⟨ai, ci, _, h, _⟩ := hV i (by omega)
      exact h
    · rcases Nat.eq_zero_or_pos len with h0 | h0
      · exact .inl (by rw [h0]; rfl)
      · obtain ⟨b, off, spot⟩ := a
        obtain ⟨_, _, hk, _⟩ := hV 0 (by omega)
        obtain ⟨_, _, hc⟩ := World.cells?_some hk
        have hc0 := hc 0 (by omega)
        have hspot : spot = none := by simpa [Addr.add] using World.cell?_spot hc0
        subst hspot
        refine .inr ⟨b, off, rfl, ?_, fun i hi => ?_⟩
        · rw [add_none', add_none'] at hc0
          rcases Nat.lt_or_ge b W.heap.size with h | h
          · exact h
          · simp [World.cell?, Array.getElem?_eq_none h, dCells] at hc0
        · rw [hlen] at hi
          rw [hget i hi]
          obtain ⟨ai, ci, hk, _, hg⟩ := hV i (by omega)
          obtain ⟨_, _, hc⟩ := World.cells?_some hk
          have e0 := hc 0 (by omega)
          have e1 := hc 1 (by omega)
          have e2 := hc 2 (by omega)
          have e3 := hc 3 (by omega)
          have e4 := hc 4 (by omega)
          have e5 := hc 5 (by omega)
          have e6 := hc 6 (by omega)
          have e7 := hc 7 (by omega)
          rw [add_none', add_none'] at e0 e1 e2 e3 e4 e5 e6 e7
          exact ⟨ai, ci, ⟨e0, e1, e2, e3, e4, e5, e6, e7⟩, hg⟩
theorem own : ownKnob Tryz.prog.godebug = none := by kernel_rfl
theorem laidOut : laidOutB Tryz.prog = true := by kernel_rfl
theorem cells24 : Tryz.prog.cellsOf 24 = 1 := by kernel_rfl
theorem cells22 : Tryz.prog.cellsOf 22 = 1 := by kernel_rfl
theorem max_of_shaped {w : World} (h : w.ShapedOpen Tryz.prog) : MaxAt w := by
  obtain ⟨m, hm⟩ := Go.Proofs.cell_of_shapedOpen_int (g := 8) (zero := #[.int .i64 0]) (t := 3) h (of_decide_eq_true (by kernel_rfl)) (by kernel_rfl) rfl (by kernel_rfl) (by kernel_rfl) Tryz.underlying3
  refine ⟨?_, m, hm⟩
  rcases Nat.lt_or_ge 8 w.heap.size with h1 | h1
  · exact h1
  · simp [World.cell?, Array.getElem?_eq_none h1] at hm
theorem et : Tryz.prog.globalNamed "errors.errorType" = some 4 := by kernel_rfl
theorem rt : (Tryz.prog.cutTypes.find? (·.1 == "internal/reflectlite.rtype")).map (·.2) = some 148 := by kernel_rfl
theorem oneRow : ((List.range 214).filter fun t => Tryz.prog.rowNamed t [101, 114, 114, 111, 114]) = [83] := by kernel_rfl
theorem tsize : Tryz.prog.types.size = 214 := by kernel_rfl
theorem gerrTaken : Tryz.prog.globalNamed "loop.example/kiln/impl.errTaken" = some 0 := by kernel_rfl
theorem terrTaken : (Tryz.prog.globals[0]?).map (·.type) = some 83 := by kernel_rfl
theorem gerrLong : Tryz.prog.globalNamed "loop.example/kiln/impl.errLong" = some 1 := by kernel_rfl
theorem terrLong : (Tryz.prog.globals[1]?).map (·.type) = some 83 := by kernel_rfl
theorem gerrEnd : Tryz.prog.globalNamed "loop.example/kiln/impl.errEnd" = some 2 := by kernel_rfl
theorem terrEnd : (Tryz.prog.globals[2]?).map (·.type) = some 83 := by kernel_rfl
theorem gerrShape : Tryz.prog.globalNamed "loop.example/kiln/impl.errShape" = some 3 := by kernel_rfl
theorem terrShape : (Tryz.prog.globals[3]?).map (·.type) = some 83 := by kernel_rfl
theorem gerrMany : Tryz.prog.globalNamed "loop.example/kiln/impl.errMany" = some 5 := by kernel_rfl
theorem terrMany : (Tryz.prog.globals[5]?).map (·.type) = some 83 := by kernel_rfl
theorem gerrMake : Tryz.prog.globalNamed "loop.example/kiln/impl.errMake" = some 6 := by kernel_rfl
theorem terrMake : (Tryz.prog.globals[6]?).map (·.type) = some 83 := by kernel_rfl
theorem gerrOrder : Tryz.prog.globalNamed "loop.example/kiln/impl.errOrder" = some 7 := by kernel_rfl
theorem terrOrder : (Tryz.prog.globals[7]?).map (·.type) = some 83 := by kernel_rfl
theorem iface_of_trod {H : Type} {enc : TypeId × Value → H} {W : World} {fuel : Nat} {cs : List Value} {nm : String} {d : DataW H} {p : List MemPlace}
    (h : DataW.trod enc Tryz.prog W 0 (fun _ => true) false fuel 83 cs = some (.iface nm d, p)) : ∃ u v, cs = [.iface u v] := by
  cases fuel with
  | zero => simp [DataW.trod] at h
  | succ m =>
    rcases cs with _ | ⟨c, _ | ⟨c', r⟩⟩
    · simp [DataW.trod, Tryz.underlying83] at h
    · cases c <;> first | exact ⟨_, _, rfl⟩ | simp [DataW.trod, Tryz.underlying83] at h
    · cases c <;> simp [DataW.trod, Tryz.underlying83] at h
theorem var_iface {W : World} {n : String} {g : Nat} {cs : Array Value} {fuel : Nat} {nm : String} {d : DataW Unit} {p : List MemPlace} (hg : Tryz.prog.globalNamed n = some g) (hv : W.var? Tryz.prog n = some cs)
    (h : DataW.trod (fun _ => ()) Tryz.prog W 0 (fun _ => true) false fuel 83 cs.toList = some (.iface nm d, p)) : ∃ t v, W.cell? ⟨g, 0, none⟩ = some (.iface t v) := by
  obtain ⟨u, v, e⟩ := iface_of_trod h
  have := World.var?_cell hg hv 0
  rw [Array.eq_one_of_toList e] at this
  exact ⟨u, v, by simpa using this⟩

theorem vars_of_laid {W : World} (h : laidMetH Tryz.prog Rows.fnExactStandsRow.laid W) (hSO : W.ShapedOpen Tryz.prog) : VarsZ W := by
  have h' : laidMet Tryz.prog [("unicode/utf8.acceptRanges", Rows.laid_unicode_utf8_acceptRanges), ("loop.example/kiln/impl.errLong", Rows.laid_loop_example_kiln_impl_errLong), ("loop.example/kiln/impl.errEnd", Rows.laid_loop_example_kiln_impl_errEnd), ("loop.example/kiln/impl.errShape", Rows.laid_loop_example_kiln_impl_errShape), ("loop.example/kiln/impl.errMake", Rows.laid_loop_example_kiln_impl_errMake), ("loop.example/kiln/impl.errMany", Rows.laid_loop_example_kiln_impl_errMany), ("loop.example/kiln/impl.errOrder", Rows.laid_loop_example_kiln_impl_errOrder), ("loop.example/kiln/impl.errTaken", Rows.laid_loop_example_kiln_impl_errTaken), ("unicode/utf8.first", Rows.laid_unicode_utf8_first)] W ∧ handlesMet Tryz.prog [("errors.errorType", Rows.laid_errors_errorType)] W := h
  obtain ⟨hp, hh⟩ := h'
  obtain ⟨ps, ⟨g1, t1, cs1, f1, p1, q1, hg1, ht1, hv1, hd1, ⟨g2, t2, cs2, f2, p2, q2, hg2, ht2, hv2, hd2, ⟨g3, t3, cs3, f3, p3, q3, hg3, ht3, hv3, hd3, ⟨g4, t4, cs4, f4, p4, q4, hg4, ht4, hv4, hd4, ⟨g5, t5, cs5, f5, p5, q5, hg5, ht5, hv5, hd5, ⟨g6, t6, cs6, f6, p6, q6, hg6, ht6, hv6, hd6, ⟨g7, t7, cs7, f7, p7, q7, hg7, ht7, hv7, hd7, ⟨g8, t8, cs8, f8, p8, q8, hg8, ht8, hv8, hd8, ⟨g9, t9, cs9, f9, p9, q9, hg9, ht9, hv9, hd9, _, _⟩, _⟩, _⟩, _⟩, _⟩, _⟩, _⟩, _⟩, _⟩, _, _⟩ := hp
  obtain rfl := Option.some.inj (gerrLong.symm.trans hg2)
  obtain rfl := Option.some.inj (terrLong.symm.trans ht2)
  obtain rfl := Option.some.inj (gerrEnd.symm.trans hg3)
  obtain rfl := Option.some.inj (terrEnd.symm.trans ht3)
  obtain rfl := Option.some.inj (gerrShape.symm.trans hg4)
  obtain rfl := Option.some.inj (terrShape.symm.trans ht4)
  obtain rfl := Option.some.inj (gerrMake.symm.trans hg5)
  obtain rfl := Option.some.inj (terrMake.symm.trans ht5)
  obtain rfl := Option.some.inj (gerrMany.symm.trans hg6)
  obtain rfl := Option.some.inj (terrMany.symm.trans ht6)
  obtain rfl := Option.some.inj (gerrOrder.symm.trans hg7)
  obtain rfl := Option.some.inj (terrOrder.symm.trans ht7)
  obtain rfl := Option.some.inj (gerrTaken.symm.trans hg8)
  obtain rfl := Option.some.inj (terrTaken.symm.trans ht8)
  refine ⟨⟨⟨var_iface hg6 hv6 hd6, var_iface hg5 hv5 hd5, var_iface hg7 hv7 hd7, ?_⟩, var_iface hg2 hv2 hd2, var_iface hg3 hv3 hd3, var_iface hg4 hv4 hd4, max_of_shaped hSO⟩, var_iface hg8 hv8 hd8⟩
  obtain ⟨name, u, ty, e1, e2, e3, e4, e5⟩ := hh _ (List.mem_singleton.2 rfl)
  have en : name = [101, 114, 114, 111, 114] := (Option.some.inj e1).symm
  subst en
  obtain rfl := Option.some.inj (rt.symm.trans e2)
  have hm : ty ∈ (List.range 214).filter fun t => Tryz.prog.rowNamed t [101, 114, 114, 111, 114] := List.mem_filter.2 ⟨List.mem_range.2 (by rw [← tsize]; exact e3), e4⟩
  rw [oneRow] at hm
  obtain rfl := List.mem_singleton.1 hm
  have hh : typeHandle Tryz.prog 83 = .pointer (some ⟨11, 83, none⟩) := by kernel_rfl
  rw [hh] at e5
  simpa using World.var?_cell et e5 0
set_option maxHeartbeats 4000000 in
set_option maxRecDepth 100000 in
theorem contract (H : Type) (enc : TypeId × Value → H) (W : World) (base : Nat) (args : Array Value) (ds gs : List (DataW H)) (before : List MemPlace)
    (hval : ∀ (j : Nat) t v, Tryz.f3.params[j]? = some t → args[j]? = some v → Value.okWide Tryz.prog W .any base t v)
    (hW : DataW.Whole enc Tryz.prog Tryz.f3.params.toList Rows.fnExactStandsSpec.vars false W args.toList ds gs before) (hL : laidMetH Tryz.prog Rows.fnExactStandsRow.laid W) (hSO : W.ShapedOpen Tryz.prog) :
    Calls Tryz.prog 3 args W fun e W' => ∃ v, e = .returned v ∧ Rows.fnExactStandsSpec.post enc Tryz.prog Tryz.f3 false true false false W args v W' := by
  have hsh : VarsZ W := vars_of_laid hL hSO
  have hW' := hW
  obtain ⟨p, q, hA0, hV, rfl, hfz, hnd⟩ := hW
  have hA : DataW.TrodAll enc Tryz.prog W 0 (fun _ => true) true Tryz.f3.params.toList args.toList ds p := hA0
  rw [Tryz.params3] at hA hval
  obtain ⟨v0, vs0, d0, ds0, p0, q0, hargs, rfl, rfl, h0, r0⟩ := trodAll_cons hA
  obtain ⟨v1, vs1, d1, ds1, p1, q1, hargs1, rfl, rfl, h1, r1⟩ := trodAll_cons r0
  obtain ⟨rfl, rfl, rfl⟩ := trodAll_nil r1
  rw [hargs1] at hargs
  obtain rfl : args = #[v0, v1] := Array.ext' hargs
  have hV1 := hV
  obtain ⟨g1, g2, g3, g4, g5, g6, g7, rfl⟩ : ∃ g1 g2 g3 g4 g5 g6 g7, gs = [g1, g2, g3, g4, g5, g6, g7] := by
    have hV2 : DataW.TrodVars enc Tryz.prog W (fun _ => true) ["loop.example/kiln/impl.errTaken", "loop.example/kiln/impl.errLong", "loop.example/kiln/impl.errEnd", "loop.example/kiln/impl.errShape", "loop.example/kiln/impl.errMany", "loop.example/kiln/impl.errMake", "loop.example/kiln/impl.errOrder"] gs q := hV
    rcases gs with _ | ⟨g1, gs⟩
    · exact hV2.elim
    obtain ⟨_, _, _, _, _, _, _, _, _, _, hV3, _⟩ := hV2
    rcases gs with _ | ⟨g2, gs⟩
    · exact hV3.elim
    obtain ⟨_, _, _, _, _, _, _, _, _, _, hV4, _⟩ := hV3
    rcases gs with _ | ⟨g3, gs⟩
    · exact hV4.elim
    obtain ⟨_, _, _, _, _, _, _, _, _, _, hV5, _⟩ := hV4
    rcases gs with _ | ⟨g4, gs⟩
    · exact hV5.elim
    obtain ⟨_, _, _, _, _, _, _, _, _, _, hV6, _⟩ := hV5
    rcases gs with _ | ⟨g5, gs⟩
    · exact hV6.elim
    obtain ⟨_, _, _, _, _, _, _, _, _, _, hV7, _⟩ := hV6
    rcases gs with _ | ⟨g6, gs⟩
    · exact hV7.elim
    obtain ⟨_, _, _, _, _, _, _, _, _, _, hV8, _⟩ := hV7
    rcases gs with _ | ⟨g7, gs⟩
    · exact hV8.elim
    obtain ⟨_, _, _, _, _, _, _, _, _, _, hV9, _⟩ := hV8
    rcases gs with _ | ⟨g8, gs⟩
    · exact ⟨_, _, _, _, _, _, _, rfl⟩
    · exact hV9.elim
  have k0 := h0
  have lt0 : ∀ x ∈ p0, x.block < W.heap.size := by obtain ⟨m, hm⟩ := k0; exact DataW.trod_lt m _ _ _ hm
  obtain ⟨cs, rfl, hsz⟩ := okWide_struct Tryz.underlying24 (hval 0 24 v0 rfl rfl)
  obtain ⟨fuel, hf⟩ := h0
  obtain ⟨y0, n, _, hlen, hy⟩ := trod_struct1 Tryz.underlying24 hf
  rw [cells24] at hsz
  obtain ⟨c0, rfl⟩ : ∃ c, cs = #[c] := Array.size_eq_one_iff.1 hsz
  simp only [cells22] at hy
  obtain ⟨a, cap, is, hcs, hl, hs, hat⟩ := T.opened hy
  simp [Value.cells] at hcs
  subst hcs
  have k1 := h1
  have lt1 : ∀ x ∈ p1, x.block < W.heap.size := by obtain ⟨m, hm⟩ := k1; exact DataW.trod_lt m _ _ _ hm
  obtain ⟨a9, len9, cap9, rfl⟩ := okWide_slice Tryz.underlying25 (hval 1 25 v1 rfl rfl)
  obtain ⟨fuel1, hf1⟩ := h1
  obtain ⟨da, dcap, dis, hdc, hdl, hds, hdat⟩ := openedD hf1
  simp [Value.cells] at hdc
  obtain ⟨rfl, rfl, rfl⟩ := hdc
  clear hA0
  have hM : maxLen ≤ 9223372036854775807 := by unfold maxLen; omega
  refine (c3 a a9 cap cap9 is dis W (fun i => ⟨Nat.le_trans (hs i).1 hM, Nat.le_trans (hs i).2 hM⟩) (Nat.le_trans hl hM) hat (fun i => ⟨Nat.le_trans (hds i).1 hM, ⟨Nat.le_trans (hds i).2.1.1 hM, Nat.le_trans (hds i).2.1.2.1 hM, Nat.le_trans (hds i).2.1.2.2 hM⟩, ⟨Nat.le_trans (hds i).2.2.1.1 hM, fun j => ⟨Nat.le_trans ((hds i).2.2.1.2 j).1 hM, Nat.le_trans ((hds i).2.2.1.2 j).2 hM⟩⟩, Nat.le_trans (hds i).2.2.2 hM⟩) (Nat.le_trans hdl hM) hdat hsh).mono fun e W' ⟨he, bel⟩ => ?_
  subst he
  exact ⟨_, rfl, _, _, _, [], _, _, hW', trodAll_mk1 (shut_bool Tryz.underlying4 _), (trodAll_cons_mk (Below.trod laidOut (by kernel_rfl) (of_decide_eq_true (by kernel_rfl)) k0 bel lt0) (trodAll_cons_mk (Below.trod laidOut (by kernel_rfl) (of_decide_eq_true (by kernel_rfl)) k1 bel lt1) trodAll_mk0)), Below.trodVars laidOut bel (by kernel_rfl) hV1, bel.frame _, fun h => by cases h⟩

/-- The cells that a table's datum is. -/
def cell1 : DataW Unit → Value
  | .lit (.int k n) => .int k n
  | .lit (.bool b) => .bool b
  | .lit (.string l) => .string ⟨l.toArray⟩
  | _ => .bool false
def cells1 : DataW Unit → List Value
  | .agg es => es.map cell1
  | d => [cell1 d]
def cells2 : DataW Unit → Array Value
  | .agg ds => (ds.flatMap cells1).toArray
  | _ => #[]
/-- A world for the witness: the settled one, the listed tables holding what their initialisers lay. -/
def withTab (g : Nat) (t : Array Value) (w : World) : World := { w with heap := w.heap.modify g fun
      | .cells _ ty frozen => .cells t ty frozen
      | o => o }
noncomputable def laidWorld (os : Os) : World := withTab 9 (cells2 Rows.laid_unicode_utf8_first) (World.doorLaid Tryz.prog 400 os)
set_option maxRecDepth 100000 in
theorem laid_met (os : Os) : laidMetH Tryz.prog Rows.fnExactStandsRow.laid ((laidWorld os).forCall (fun _ _ => 0) ⟨#[], #[.agg #[.slice none 0 0], .slice none 0 0], []⟩).memory :=
  laidMetH_of_parts (laidMet_of_run' 8 (by kernel_rfl) (by kernel_rfl)) (by kernel_rfl)
set_option maxRecDepth 100000 in
theorem reads (os : Os) {H : Type} (enc : TypeId × Value → H) : ∃ ds gs places, DataW.whole enc Tryz.prog ((laidWorld os).forCall (fun _ _ => 0) ⟨#[], #[.agg #[.slice none 0 0], .slice none 0 0], []⟩).memory Tryz.f3.params.toList Rows.fnExactStandsSpec.vars false #[Value.agg #[.slice none 0 0], .slice none 0 0].toList 8 = some (ds, gs, places) := by
  have h : (DataW.whole enc Tryz.prog ((laidWorld os).forCall (fun _ _ => 0) ⟨#[], #[.agg #[.slice none 0 0], .slice none 0 0], []⟩).memory Tryz.f3.params.toList Rows.fnExactStandsSpec.vars false #[Value.agg #[.slice none 0 0], .slice none 0 0].toList 8).isSome = true := by kernel_rfl
  obtain ⟨⟨a, b, c⟩, e⟩ := Option.isSome_iff_exists.1 h
  exact ⟨a, b, c, e⟩

set_option maxRecDepth 100000 in
theorem lifted (os : Os) (started : os.Started) (H : Type) (enc : TypeId × Value → H) (F : Stop.Interp) :
    ReturnsInHanded {} Tryz.checked os 3 .any ((OpenSpec.ofChange Rows.fnExactStandsSpec).preRow enc Tryz.prog Tryz.f3 Rows.fnExactStandsRow.domain false Rows.fnExactStandsRow.laid) (((OpenSpec.ofChange Rows.fnExactStandsSpec).at F).post enc Tryz.prog Tryz.f3 false true false false) := by
  obtain ⟨ds, gs, places, hx⟩ := reads os enc
  refine returnsInHanded_of_row (C := Tryz.checked) (s := OpenSpec.ofChange Rows.fnExactStandsSpec) own started (by kernel_rfl) Tryz.func3
    (witness_row_atRef (enc := enc) (C := Tryz.checked) false (laidWorld os) #[.agg #[.slice none 0 0], .slice none 0 0] rfl (by kernel_rfl) (by kernel_rfl) (by kernel_rfl)
      (OpenSpec.preRow_of_cond 8 hx (by kernel_rfl) (fun k hk => by cases hk) (by kernel_rfl) (laid_met os))) ?_
  intro W base args ds gs before hval hW _ _ _ hL hSO _
  exact contract H enc W base args ds gs before hval hW hL hSO

theorem said : Rows.FnExactStandsSaid :=
  OpenClaim.holds_of_cond 3 Tryz.f3 rfl rfl rfl rfl rfl rfl rfl ⟨rfl, rfl, rfl, rfl, rfl⟩ rfl rfl rfl rfl rfl (by kernel_rfl) Tryz.func3 (by kernel_rfl)
    (of_decide_eq_true (by kernel_rfl)) (by unfold Func.isWrapper; first | (rw [if_pos (by decide +kernel)]; kernel_rfl) | (rw [if_neg (by decide +kernel)]; exact ⟨rfl, rfl⟩))
    (fun os started H enc _ F => by rw [OpenClaim.pre_eq_preRow]; exact lifted os started H enc F)

theorem plain (f : FuncId) (fn : Func) (hf : Tryz.pinned.checked.prog.funcNamed "loop.example/kiln/laws.FnExactStands" = some f) (hfn : Tryz.pinned.checked.prog.funcs[f]? = some fn) :
    true = Tryz.pinned.checked.prog.looks [] ∧ ∀ (j : Nat) t, fn.params[j]? = some t → Tryz.pinned.checked.prog.wantsStandIn t = false := by
  obtain rfl : f = 3 := Option.some.inj ((show Tryz.prog.funcNamed "loop.example/kiln/laws.FnExactStands" = some 3 by kernel_rfl).symm.trans hf) |>.symm
  obtain rfl : fn = Tryz.f3 := (Option.some.inj (Tryz.func3.symm.trans hfn)).symm
  refine ⟨by kernel_rfl, fun j t ht => ?_⟩
  rw [Tryz.params3] at ht
  have hm : t = 24 ∨ t = 25 := by simpa using Array.mem_of_getElem? ht
  rcases hm with rfl | rfl
  · exact (show Tryz.prog.wantsStandIn 24 = false by kernel_rfl)
  · exact (show Tryz.prog.wantsStandIn 25 = false by kernel_rfl)

theorem card : Rows.FnExactStandsCardSaid :=
  Claim7.holds_tied_plain_at .later [] _ _ _ _ said (fun _ h => by cases h) (by kernel_rfl) (fun _ h => by cases h) fnExactStands_row_tie rfl ⟨rfl, rfl⟩ (by kernel_rfl) rfl plain (by kernel_rfl)
end Go.Proofs.YtggcgnfockpgmaaGreatDoor.fnExactStands
namespace Go.Proofs.YtggcgnfockpgmaaGreatDoor
theorem fnExactStands_holds : Rows.FnExactStandsCardSaid := fnExactStands.card
#print axioms fnExactStands_holds
end Go.Proofs.YtggcgnfockpgmaaGreatDoor
