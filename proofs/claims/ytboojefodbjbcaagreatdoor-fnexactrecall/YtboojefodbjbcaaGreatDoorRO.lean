import Derived.Test.YtboojefodbjbcaaGreatDoorZR00
import Derived.Test.YtboojefodbjbcaaGreatDoorZR41
import Derived.Test.YtboojefodbjbcaaGreatDoorZR03
namespace Go.Proofs.YtboojefodbjbcaaGreatDoor
open Go.RowKit
def Unf (w : World) (g : Nat) : Prop := g < w.heap.size ∧ ∀ j, w.frozen? ⟨g, j, none⟩ = false
theorem Unf.set {w : World} {g : Nat} {p : Addr} {v : Value} (h : Unf w g) : Unf (w.setCell p v) g := ⟨by simpa using h.1, fun j => by simpa using h.2 j⟩
theorem Unf.below {w w' : World} {g : Nat} (h : Unf w g) (hb : Below w.heap.size w w') : Unf w' g := ⟨Nat.lt_of_lt_of_le h.1 hb.size, fun j => (hb.frozen (p := ⟨g, j, none⟩) h.1).trans (h.2 j)⟩
end Go.Proofs.YtboojefodbjbcaaGreatDoor
namespace Go.Proofs.YtboojefodbjbcaaGreatDoor.G.T
open Go.RowKit
set_option maxHeartbeats 1000000 in
theorem c38o (a : Option Addr) (cap : Nat) (rs : List F2) (w : World) (hl : rs.length ≤ 1048576) (hat : FilesAt w a rs) :
 Calls Tryz.prog 38 #[.slice a rs.length cap] w fun e w' => (e = .returned (.slice (some ⟨w.heap.size, 0, none⟩) rs.length rs.length) ∧ FilesAt w' (some ⟨w.heap.size, 0, none⟩) rs ∧ Unf w' w.heap.size) ∧ Below w.heap.size w w' := by
 obtain ⟨b, off, hc⟩ := files_some hat
 have HC : Hid (rs = [] ∨ (a = some ⟨b, off, none⟩ ∧ b < w.heap.size ∧ ∀ i, i < rs.length → w.cell? ⟨b, off + i * 2, none⟩ = some (.string (rs.getD i f2z).nm) ∧ w.cell? ⟨b, off + i * 2 + 1, none⟩ = some (.string (rs.getD i f2z).tx))) := hc
 clear hc hat
 obtain ⟨i0, hi, hz0, hz1, hz2⟩ := info_parts info129
 have hmk : ∀ u : World, (Instr.makeSlice 47 (.int .i64 (rs.length : Int)) (.int .i64 (rs.length : Int))).run Tryz.prog u =
  .ok (.slice (some ⟨u.heap.size, 0, none⟩) rs.length rs.length) (u.alloc (.cells (madeCells #[.string ⟨#[]⟩, .string ⟨#[]⟩] (rs.length * 2)) 129)) := fun u => by
  have h := run_make (P := Tryz.prog) u 47 129 i0 (.agg #[.string ⟨#[]⟩, .string ⟨#[]⟩]) Tryz.underlying47 hi hz0 .i64 .i64 (rs.length : Int) (rs.length : Int) (by omega) (Int.le_refl _) (by rw [hz2]; omega) (by omega)
  simpa [hz1, Value.cells] using h
 go_enter Tryz.func38, Tryz.ntmps38
 go_wp2_with fail
 go_loopw [4] (fun i wr => ∃ (k : Nat), k ≤ rs.length ∧ i = .int .i64 k ∧ Below w.heap.size w wr ∧ w.heap.size + 1 ≤ wr.heap.size ∧ (∀ j, wr.frozen? ⟨w.heap.size, j, none⟩ = false) ∧ Hid (∀ j, j < k → wr.cell? ⟨w.heap.size, j * 2, none⟩ = some (.string (rs.getD j f2z).nm) ∧ wr.cell? ⟨w.heap.size, j * 2 + 1, none⟩ = some (.string (rs.getD j f2z).tx)) ∧ Hid (∀ j, k ≤ j → j < rs.length → wr.cell? ⟨w.heap.size, j * 2, none⟩ = some (.string ⟨#[]⟩) ∧ wr.cell? ⟨w.heap.size, j * 2 + 1, none⟩ = some (.string ⟨#[]⟩))) (fun i _ => rs.length - (intOf i).toNat)
 case atStart =>
  refine ⟨0, Nat.zero_le _, rfl, (Below.refl _ _).alloc (Nat.le_refl _) _, by simp, fun j => by simp, fun j h => absurd h (Nat.not_lt_zero _), fun j _ h => ?_⟩
  have e0 := made2 rs.length (j * 2) (by omega)
  have e1 := made2 rs.length (j * 2 + 1) (by omega)
  rw [show j * 2 % 2 = 0 by omega] at e0
  rw [show (j * 2 + 1) % 2 = 1 by omega] at e1
  simp [e0, e1]
 case round =>
  obtain ⟨k, hk, rfl, hb, hz, hfz, hdone, hrest⟩ := hrel
  by_cases hlt : k < rs.length
  · rcases HC.out with hss | ⟨ha, hbw, hcell⟩
    · rw [hss] at hlt; exact absurd hlt (Nat.not_lt_zero _)
    subst ha
    have g0 := (hb.cell (p := ⟨b, off + k * 2, none⟩) hbw).trans (hcell k hlt).1
    have g1 := (hb.cell (p := ⟨b, off + k * 2 + 1, none⟩) hbw).trans (hcell k hlt).2
    obtain ⟨q0, q1⟩ := hrest.out k (Nat.le_refl _) hlt
    generalize hx : rs.getD k f2z = x at *
    have HX : Hid (rs.getD k f2z = x) := hx
    clear hx hcell
    go_wp2_with fail
    refine (c77b x wr).mono ?_
    rintro e w1 ⟨rfl, hb1⟩
    have hB1 : Below w.heap.size w w1 := hb.trans (hb1.mono hb.size)
    have p0 := (hb1.cell (p := ⟨w.heap.size, k * 2, none⟩) (by simp; omega)).trans q0
    have p1 := (hb1.cell (p := ⟨w.heap.size, k * 2 + 1, none⟩) (by simp; omega)).trans q1
    have f0 := (hb1.frozen (p := ⟨w.heap.size, k * 2, none⟩) (by simp; omega)).trans (hfz _)
    have f1 := (hb1.frozen (p := ⟨w.heap.size, k * 2 + 1, none⟩) (by simp; omega)).trans (hfz _)
    have hold : ∀ j, w1.cell? ⟨w.heap.size, j, none⟩ = wr.cell? ⟨w.heap.size, j, none⟩ := fun j => hb1.cell (by simp; omega)
    have HO : Hid (∀ j, w1.cell? ⟨w.heap.size, j, none⟩ = wr.cell? ⟨w.heap.size, j, none⟩) := hold
    have hoz : w.heap.size + 1 ≤ w1.heap.size := Nat.le_trans hz hb1.size
    have HFZ : Hid (∀ j, w1.frozen? ⟨w.heap.size, j, none⟩ = false) := fun j => (hb1.frozen (p := ⟨w.heap.size, j, none⟩) (by simp; omega)).trans (hfz j)
    clear hold
    go_wp2
    go_roundw
    case rel =>
     refine ⟨k + 1, by omega, by go_num, (hB1.setCell (by simp) _).setCell (by simp) _, by simpa using hoz, fun j => by rw [← HFZ.out j]; simp, fun j hj => ?_, fun j h1 h2 => ?_⟩
     · by_cases e : j = k
       · subst e
         rw [HX.out]
         exact set2_at w1 w.heap.size (j * 2) _ _ _ _ p0 p1
       · have hd := hdone.out j (by omega)
         rw [set2_other _ _ _ _ _ _ (by omega) (by omega), set2_other _ _ _ _ _ _ (by omega) (by omega), HO.out, HO.out]
         exact hd
     · have hd := hrest.out j (by omega) h2
       rw [set2_other _ _ _ _ _ _ (by omega) (by omega), set2_other _ _ _ _ _ _ (by omega) (by omega), HO.out, HO.out]
       exact hd
    case measure => simp [intOf]; omega
  · have hdone' : Hid (FilesAt wr (some ⟨w.heap.size, 0, none⟩) rs) := .inr ⟨w.heap.size, 0, rfl, by omega, fun i hi => by simp only [Nat.zero_add]; exact hdone.out i (by omega)⟩
    have hop : Hid (Unf wr w.heap.size) := ⟨by omega, hfz⟩
    go_wp2
    go_ret
    exact ⟨⟨rfl, hdone'.out, hop.out⟩, hb⟩
set_option maxHeartbeats 400000 in
theorem c10o (a : Option Addr) (cap : Nat) (is : List F2) (w : World) (hl : is.length ≤ 1048576) (hat : FilesAt w a is) :
 Calls Tryz.prog 10 #[.agg #[.slice a is.length cap]] w fun e w' => (∃ g, w.heap.size ≤ g ∧ e = .returned (.agg #[.slice (some ⟨g, 0, none⟩) is.length is.length]) ∧ FilesAt w' (some ⟨g, 0, none⟩) is ∧ Unf w' g) ∧ Below w.heap.size w w' := by
 have HA : Hid (FilesAt w a is) := hat
 clear hat
 go_enter Tryz.func10, Tryz.ntmps10
 go_wp2_with fail
 refine (c38o a cap is _ hl (files_below HA.out ((((Below.refl _ _).alloc (Nat.le_refl _) _).alloc (by simp) _).alloc (by simp; omega) _))).mono ?_
 rintro e w1 ⟨⟨rfl, h1, hu1⟩, hb1⟩
 have hsz : (((w.alloc (.cells #[.slice a is.length cap] 28)).alloc (.cells #[.slice none 0 0] 49)).alloc (.cells #[.slice none 0 0] 49)).heap.size = w.heap.size + 3 := by simp
 have H1 : Hid (FilesAt w1 (some ⟨w.heap.size + 3, 0, none⟩) is) := by rw [← hsz]; exact h1
 have HU : Hid (Unf w1 (w.heap.size + 3)) := by rw [← hsz]; exact hu1
 have hB : Below w.heap.size w w1 := ((((Below.refl _ _).alloc (Nat.le_refl _) _).alloc (by simp) _).alloc (by simp; omega) _).trans (hb1.mono (by simp; omega))
 have e1 : w1.cell? ⟨w.heap.size + 1, 0, none⟩ = some (.slice none 0 0) := (hb1.cell (p := ⟨w.heap.size + 1, 0, none⟩) (by simp)).trans (by simp [go_sem])
 have e2 : w1.cell? ⟨w.heap.size + 1 + 1, 0, none⟩ = some (.slice none 0 0) := (hb1.cell (p := ⟨w.heap.size + 1 + 1, 0, none⟩) (by simp)).trans (by simp [go_sem])
 have f1 : w1.frozen? ⟨w.heap.size + 1, 0, none⟩ = false := (hb1.frozen (p := ⟨w.heap.size + 1, 0, none⟩) (by simp)).trans (by simp [go_sem])
 have f2 : w1.frozen? ⟨w.heap.size + 1 + 1, 0, none⟩ = false := (hb1.frozen (p := ⟨w.heap.size + 1 + 1, 0, none⟩) (by simp)).trans (by simp [go_sem])
 clear h1 hu1 hsz
 go_wp2
 refine bodyPost_ret (v := .agg #[.slice (some ⟨w.heap.size + 3, 0, none⟩) is.length is.length]) (by simp [results, Tryz.results10, go_sem, e1]) rfl ⟨⟨_, by omega, rfl, ?_, ?_⟩, ?_⟩
 · exact files_setCell (files_setCell H1.out (by simp)) (by simp)
 · exact HU.out.set.set
 · exact (hB.setCell (by simp; omega) _).setCell (by simp) _
set_option maxHeartbeats 400000 in
theorem c5l (l : Int) (a : Option Addr) (cap : Nat) (is : List F2) (w : World) (hs : ∀ i, (is.getD i f2z).le 9223372036854775807) (hl : is.length ≤ 9223372036854775807) (hat : FilesAt w a is) (l0 : 0 ≤ l) (l1 : l ≤ 1048576) :
 Calls Tryz.prog 5 #[.agg #[.slice a is.length cap], .int .i64 l] w fun e w' => (∃ r : Int, e = .returned (.int .i64 r) ∧ (0 ≤ r → is.length ≤ 1048576 ∧ (∀ i, (is.getD i f2z).le 1048576) ∧ r ≤ 1048576)) ∧ Below w.heap.size w w' := by
 have HA : Hid (FilesAt w a is) := hat
 clear hat
 go_enter Tryz.func5, Tryz.ntmps5
 go_wp2_with fail
 refine (c26 a cap is l _ hs hl (files_below HA.out ((Below.refl _ _).alloc (Nat.le_refl _) _)) (by omega) (by omega)).mono ?_
 rintro e w1 ⟨⟨r, rfl, hr⟩, hb1⟩
 have HR : Hid (0 ≤ r → is.length ≤ 1048576 ∧ (∀ i, (is.getD i f2z).le 1048576) ∧ r ≤ 1048576) := hr
 have hB : Below w.heap.size w w1 := ((Below.refl _ _).alloc (Nat.le_refl _) _).trans (hb1.mono (by simp))
 clear hr
 by_cases hneg : r < 0
 · go_wp2
   go_ret
   exact ⟨⟨-1, rfl, fun h => by omega⟩, hB⟩
 · go_wp2
   go_ret
   exact ⟨⟨r, rfl, HR.out⟩, hB⟩
end Go.Proofs.YtboojefodbjbcaaGreatDoor.G.T
namespace Go.Proofs.YtboojefodbjbcaaGreatDoor.G
open Go.RowKit
set_option maxHeartbeats 1000000 in
theorem c78o (a : Option Addr) (cap : Nat) (is : List L4) (w : World) (hl : is.length ≤ 1048576) (hat : LksAt w a is) :
 Calls Tryz.prog 78 #[.slice a is.length cap] w fun e w' => (e = .returned (.slice (some ⟨w.heap.size, 0, none⟩) is.length is.length) ∧ LksAt w' (some ⟨w.heap.size, 0, none⟩) is ∧ Unf w' w.heap.size) ∧ Below w.heap.size w w' := by
 obtain ⟨b, off, hc⟩ := lks_some hat
 have HC : Hid (is = [] ∨ (a = some ⟨b, off, none⟩ ∧ b < w.heap.size ∧ ∀ i, i < is.length → w.cell? ⟨b, off + i * 4, none⟩ = some (.bool (is.getD i l4z).has) ∧ w.cell? ⟨b, off + i * 4 + 1, none⟩ = some (.string (is.getD i l4z).nm) ∧ w.cell? ⟨b, off + i * 4 + 2, none⟩ = some (.int .i64 (is.getD i l4z).cd) ∧ w.cell? ⟨b, off + i * 4 + 3, none⟩ = some (.string (is.getD i l4z).tx))) := hc
 clear hc hat
 obtain ⟨i0, hi, hz0, hz1, hz2⟩ := info_parts info108
 have hmk : ∀ u : World, (Instr.makeSlice 40 (.int .i64 (is.length : Int)) (.int .i64 (is.length : Int))).run Tryz.prog u =
  .ok (.slice (some ⟨u.heap.size, 0, none⟩) is.length is.length) (u.alloc (.cells (madeCells #[.bool false, .string ⟨#[]⟩, .int .i64 0, .string ⟨#[]⟩] (is.length * 4)) 108)) := fun u => by
  have h := run_make (P := Tryz.prog) u 40 108 i0 (.agg #[.bool false, .string ⟨#[]⟩, .int .i64 0, .string ⟨#[]⟩]) Tryz.underlying40 hi hz0 .i64 .i64 (is.length : Int) (is.length : Int) (by omega) (Int.le_refl _) (by rw [hz2]; omega) (by omega)
  simpa [hz1, Value.cells] using h
 go_enter Tryz.func78, Tryz.ntmps78
 go_wp2_with fail
 go_loopw [4] (fun i wr => ∃ (k : Nat), k ≤ is.length ∧ i = .int .i64 k ∧ Below w.heap.size w wr ∧ w.heap.size + 1 ≤ wr.heap.size ∧ (∀ j, wr.frozen? ⟨w.heap.size, j, none⟩ = false) ∧ Hid (∀ j, j < k → wr.cell? ⟨w.heap.size, j * 4, none⟩ = some (.bool (is.getD j l4z).has) ∧ wr.cell? ⟨w.heap.size, j * 4 + 1, none⟩ = some (.string (is.getD j l4z).nm) ∧ wr.cell? ⟨w.heap.size, j * 4 + 2, none⟩ = some (.int .i64 (is.getD j l4z).cd) ∧ wr.cell? ⟨w.heap.size, j * 4 + 3, none⟩ = some (.string (is.getD j l4z).tx)) ∧ Hid (∀ j, k ≤ j → j < is.length → wr.cell? ⟨w.heap.size, j * 4, none⟩ = some (.bool false) ∧ wr.cell? ⟨w.heap.size, j * 4 + 1, none⟩ = some (.string ⟨#[]⟩) ∧ wr.cell? ⟨w.heap.size, j * 4 + 2, none⟩ = some (.int .i64 0) ∧ wr.cell? ⟨w.heap.size, j * 4 + 3, none⟩ = some (.string ⟨#[]⟩))) (fun i _ => is.length - (intOf i).toNat)
 case atStart =>
  refine ⟨0, Nat.zero_le _, rfl, (Below.refl _ _).alloc (Nat.le_refl _) _, by simp, fun j => by simp, fun j h => absurd h (Nat.not_lt_zero _), fun j _ h => ?_⟩
  have e0 := madeL is.length (j * 4) (by omega)
  have e1 := madeL is.length (j * 4 + 1) (by omega)
  have e2 := madeL is.length (j * 4 + 2) (by omega)
  have e3 := madeL is.length (j * 4 + 3) (by omega)
  rw [show j * 4 % 4 = 0 by omega] at e0
  rw [show (j * 4 + 1) % 4 = 1 by omega] at e1
  rw [show (j * 4 + 2) % 4 = 2 by omega] at e2
  rw [show (j * 4 + 3) % 4 = 3 by omega] at e3
  simp [e0, e1, e2, e3]
 case round =>
  obtain ⟨k, hk, rfl, hb, hz, hfz, hdone, hrest⟩ := hrel
  by_cases hlt : k < is.length
  · rcases HC.out with hss | ⟨ha, hbw, hcell⟩
    · rw [hss] at hlt; exact absurd hlt (Nat.not_lt_zero _)
    subst ha
    have g0 := (hb.cell (p := ⟨b, off + k * 4, none⟩) hbw).trans (hcell k hlt).1
    have g1 := (hb.cell (p := ⟨b, off + k * 4 + 1, none⟩) hbw).trans (hcell k hlt).2.1
    have g2 := (hb.cell (p := ⟨b, off + k * 4 + 2, none⟩) hbw).trans (hcell k hlt).2.2.1
    have g3 := (hb.cell (p := ⟨b, off + k * 4 + 3, none⟩) hbw).trans (hcell k hlt).2.2.2
    obtain ⟨q0, q1, q2, q3⟩ := hrest.out k (Nat.le_refl _) hlt
    generalize hx : is.getD k l4z = x at *
    have HX : Hid (is.getD k l4z = x) := hx
    clear hx hcell
    go_wp2_with fail
    refine (c109 x wr).mono ?_
    rintro e w1 ⟨rfl, hb1⟩
    have hB1 : Below w.heap.size w w1 := hb.trans (hb1.mono hb.size)
    have p0 := (hb1.cell (p := ⟨w.heap.size, k * 4, none⟩) (by simp; omega)).trans q0
    have p1 := (hb1.cell (p := ⟨w.heap.size, k * 4 + 1, none⟩) (by simp; omega)).trans q1
    have p2 := (hb1.cell (p := ⟨w.heap.size, k * 4 + 2, none⟩) (by simp; omega)).trans q2
    have p3 := (hb1.cell (p := ⟨w.heap.size, k * 4 + 3, none⟩) (by simp; omega)).trans q3
    have f0 := (hb1.frozen (p := ⟨w.heap.size, k * 4, none⟩) (by simp; omega)).trans (hfz _)
    have f1 := (hb1.frozen (p := ⟨w.heap.size, k * 4 + 1, none⟩) (by simp; omega)).trans (hfz _)
    have f2 := (hb1.frozen (p := ⟨w.heap.size, k * 4 + 2, none⟩) (by simp; omega)).trans (hfz _)
    have f3 := (hb1.frozen (p := ⟨w.heap.size, k * 4 + 3, none⟩) (by simp; omega)).trans (hfz _)
    have HO : Hid (∀ j, w1.cell? ⟨w.heap.size, j, none⟩ = wr.cell? ⟨w.heap.size, j, none⟩) := fun j => hb1.cell (by simp; omega)
    have hoz : w.heap.size + 1 ≤ w1.heap.size := Nat.le_trans hz hb1.size
    have HFZ : Hid (∀ j, w1.frozen? ⟨w.heap.size, j, none⟩ = false) := fun j => (hb1.frozen (p := ⟨w.heap.size, j, none⟩) (by simp; omega)).trans (hfz j)
    go_wp2
    go_roundw
    case rel =>
     refine ⟨k + 1, by omega, by go_num, (((hB1.setCell (by simp) _).setCell (by simp) _).setCell (by simp) _).setCell (by simp) _, by simpa using hoz, fun j => by rw [← HFZ.out j]; simp, fun j hj => ?_, fun j h1 h2 => ?_⟩
     · by_cases e : j = k
       · subst e
         rw [HX.out]
         exact set4_at w1 w.heap.size (j * 4) _ _ _ _ _ _ _ _ p0 p1 p2 p3
       · have hd := hdone.out j (by omega)
         rw [set4_other _ _ _ _ _ _ _ _ (by omega) (by omega) (by omega) (by omega), set4_other _ _ _ _ _ _ _ _ (by omega) (by omega) (by omega) (by omega), set4_other _ _ _ _ _ _ _ _ (by omega) (by omega) (by omega) (by omega), set4_other _ _ _ _ _ _ _ _ (by omega) (by omega) (by omega) (by omega), HO.out, HO.out, HO.out, HO.out]
         exact hd
     · have hd := hrest.out j (by omega) h2
       rw [set4_other _ _ _ _ _ _ _ _ (by omega) (by omega) (by omega) (by omega), set4_other _ _ _ _ _ _ _ _ (by omega) (by omega) (by omega) (by omega), set4_other _ _ _ _ _ _ _ _ (by omega) (by omega) (by omega) (by omega), set4_other _ _ _ _ _ _ _ _ (by omega) (by omega) (by omega) (by omega), HO.out, HO.out, HO.out, HO.out]
       exact hd
    case measure => simp [intOf]; omega
  · have hdone' : Hid (LksAt wr (some ⟨w.heap.size, 0, none⟩) is) := .inr ⟨w.heap.size, 0, rfl, by omega, fun i hi => by simp only [Nat.zero_add]; exact hdone.out i (by omega)⟩
    have hop : Hid (Unf wr w.heap.size) := ⟨by omega, hfz⟩
    go_wp2
    go_ret
    exact ⟨⟨rfl, hdone'.out, hop.out⟩, hb⟩
set_option maxHeartbeats 2000000 in
theorem c39o (x : D8) (ai : Option Addr) (ci : Nat) (w : World) (hl : x.ls.length ≤ 1048576) (hat : LksAt w ai x.ls) :
 Calls Tryz.prog 39 #[.agg #[.string x.nm, .bool x.made, .string x.km.nm, .string x.km.tl, .string x.km.ar, .slice ai x.ls.length ci, .int .i64 x.cd, .string x.tx]] w fun e w' => (∃ g, w.heap.size + 3 ≤ g ∧ e = .returned (.agg #[.string x.nm, .bool x.made, .string x.km.nm, .string x.km.tl, .string x.km.ar, .slice (some ⟨g, 0, none⟩) x.ls.length x.ls.length, .int .i64 x.cd, .string x.tx]) ∧ LksAt w' (some ⟨g, 0, none⟩) x.ls ∧ Unf w' g) ∧ Below w.heap.size w w' := by
 have hB0 : Below w.heap.size w (((w.alloc (.cells #[.string x.nm, .bool x.made, .string x.km.nm, .string x.km.tl, .string x.km.ar, .slice ai x.ls.length ci, .int .i64 x.cd, .string x.tx] 72)).alloc (.cells #[.string ⟨#[]⟩, .bool false, .string ⟨#[]⟩, .string ⟨#[]⟩, .string ⟨#[]⟩, .slice none 0 0, .int .i64 0, .string ⟨#[]⟩] 78)).alloc (.cells #[.string x.nm, .bool x.made, .string ⟨#[]⟩, .string ⟨#[]⟩, .string ⟨#[]⟩, .slice none 0 0, .int .i64 0, .string ⟨#[]⟩] 78)) := (((Below.refl _ _).alloc (Nat.le_refl _) _).alloc (by simp) _).alloc (by simp; omega) _
 have h36 := c11 x.km (((w.alloc (.cells #[.string x.nm, .bool x.made, .string x.km.nm, .string x.km.tl, .string x.km.ar, .slice ai x.ls.length ci, .int .i64 x.cd, .string x.tx] 72)).alloc (.cells #[.string ⟨#[]⟩, .bool false, .string ⟨#[]⟩, .string ⟨#[]⟩, .string ⟨#[]⟩, .slice none 0 0, .int .i64 0, .string ⟨#[]⟩] 78)).alloc (.cells #[.string x.nm, .bool x.made, .string ⟨#[]⟩, .string ⟨#[]⟩, .string ⟨#[]⟩, .slice none 0 0, .int .i64 0, .string ⟨#[]⟩] 78))
 have HA : Hid (LksAt w ai x.ls) := hat
 clear hat
 go_enter Tryz.func39, Tryz.ntmps39
 go_wp2_with fail
 refine h36.mono ?_
 rintro e w1 ⟨rfl, hb1⟩
 have hx1 : Below (w.heap.size + 3) (((w.alloc (.cells #[.string x.nm, .bool x.made, .string x.km.nm, .string x.km.tl, .string x.km.ar, .slice ai x.ls.length ci, .int .i64 x.cd, .string x.tx] 72)).alloc (.cells #[.string ⟨#[]⟩, .bool false, .string ⟨#[]⟩, .string ⟨#[]⟩, .string ⟨#[]⟩, .slice none 0 0, .int .i64 0, .string ⟨#[]⟩] 78)).alloc (.cells #[.string x.nm, .bool x.made, .string ⟨#[]⟩, .string ⟨#[]⟩, .string ⟨#[]⟩, .slice none 0 0, .int .i64 0, .string ⟨#[]⟩] 78)) w1 := by have h := hb1; simp at h; exact h
 have hB1 : Below w.heap.size w w1 := hB0.trans (hx1.mono (by omega))
 have c : ∀ b j, b < w.heap.size + 3 → w1.cell? ⟨b, j, none⟩ = (((w.alloc (.cells #[.string x.nm, .bool x.made, .string x.km.nm, .string x.km.tl, .string x.km.ar, .slice ai x.ls.length ci, .int .i64 x.cd, .string x.tx] 72)).alloc (.cells #[.string ⟨#[]⟩, .bool false, .string ⟨#[]⟩, .string ⟨#[]⟩, .string ⟨#[]⟩, .slice none 0 0, .int .i64 0, .string ⟨#[]⟩] 78)).alloc (.cells #[.string x.nm, .bool x.made, .string ⟨#[]⟩, .string ⟨#[]⟩, .string ⟨#[]⟩, .slice none 0 0, .int .i64 0, .string ⟨#[]⟩] 78)).cell? ⟨b, j, none⟩ := fun b j h => hx1.cell (by exact h)
 have f : ∀ b j, b < w.heap.size + 3 → w1.frozen? ⟨b, j, none⟩ = (((w.alloc (.cells #[.string x.nm, .bool x.made, .string x.km.nm, .string x.km.tl, .string x.km.ar, .slice ai x.ls.length ci, .int .i64 x.cd, .string x.tx] 72)).alloc (.cells #[.string ⟨#[]⟩, .bool false, .string ⟨#[]⟩, .string ⟨#[]⟩, .string ⟨#[]⟩, .slice none 0 0, .int .i64 0, .string ⟨#[]⟩] 78)).alloc (.cells #[.string x.nm, .bool x.made, .string ⟨#[]⟩, .string ⟨#[]⟩, .string ⟨#[]⟩, .slice none 0 0, .int .i64 0, .string ⟨#[]⟩] 78)).frozen? ⟨b, j, none⟩ := fun b j h => hx1.frozen (by exact h)
 have a5 : w1.cell? ⟨w.heap.size, 5, none⟩ = some (.slice ai x.ls.length ci) := by rw [c _ _ (by omega)]; simp [go_sem]
 have a6 : w1.cell? ⟨w.heap.size, 6, none⟩ = some (.int .i64 x.cd) := by rw [c _ _ (by omega)]; simp [go_sem]
 have a7 : w1.cell? ⟨w.heap.size, 7, none⟩ = some (.string x.tx) := by rw [c _ _ (by omega)]; simp [go_sem]
 have r0 : w1.cell? ⟨w.heap.size + 1, 0, none⟩ = some (.string ⟨#[]⟩) := by rw [c _ _ (by omega)]; simp [go_sem]
 have o0 : w1.cell? ⟨w.heap.size + 1 + 1, 0, none⟩ = some (.string x.nm) := by rw [c _ _ (by omega)]; simp [go_sem]
 have fr0 : w1.frozen? ⟨w.heap.size + 1, 0, none⟩ = false := by rw [f _ _ (by omega)]; simp [go_sem]
 have fo0 : w1.frozen? ⟨w.heap.size + 1 + 1, 0, none⟩ = false := by rw [f _ _ (by omega)]; simp [go_sem]
 have r1 : w1.cell? ⟨w.heap.size + 1, 1, none⟩ = some (.bool false) := by rw [c _ _ (by omega)]; simp [go_sem]
 have o1 : w1.cell? ⟨w.heap.size + 1 + 1, 1, none⟩ = some (.bool x.made) := by rw [c _ _ (by omega)]; simp [go_sem]
 have fr1 : w1.frozen? ⟨w.heap.size + 1, 1, none⟩ = false := by rw [f _ _ (by omega)]; simp [go_sem]
 have fo1 : w1.frozen? ⟨w.heap.size + 1 + 1, 1, none⟩ = false := by rw [f _ _ (by omega)]; simp [go_sem]
 have r2 : w1.cell? ⟨w.heap.size + 1, 2, none⟩ = some (.string ⟨#[]⟩) := by rw [c _ _ (by omega)]; simp [go_sem]
 have o2 : w1.cell? ⟨w.heap.size + 1 + 1, 2, none⟩ = some (.string ⟨#[]⟩) := by rw [c _ _ (by omega)]; simp [go_sem]
 have fr2 : w1.frozen? ⟨w.heap.size + 1, 2, none⟩ = false := by rw [f _ _ (by omega)]; simp [go_sem]
 have fo2 : w1.frozen? ⟨w.heap.size + 1 + 1, 2, none⟩ = false := by rw [f _ _ (by omega)]; simp [go_sem]
 have r3 : w1.cell? ⟨w.heap.size + 1, 3, none⟩ = some (.string ⟨#[]⟩) := by rw [c _ _ (by omega)]; simp [go_sem]
 have o3 : w1.cell? ⟨w.heap.size + 1 + 1, 3, none⟩ = some (.string ⟨#[]⟩) := by rw [c _ _ (by omega)]; simp [go_sem]
 have fr3 : w1.frozen? ⟨w.heap.size + 1, 3, none⟩ = false := by rw [f _ _ (by omega)]; simp [go_sem]
 have fo3 : w1.frozen? ⟨w.heap.size + 1 + 1, 3, none⟩ = false := by rw [f _ _ (by omega)]; simp [go_sem]
 have r4 : w1.cell? ⟨w.heap.size + 1, 4, none⟩ = some (.string ⟨#[]⟩) := by rw [c _ _ (by omega)]; simp [go_sem]
 have o4 : w1.cell? ⟨w.heap.size + 1 + 1, 4, none⟩ = some (.string ⟨#[]⟩) := by rw [c _ _ (by omega)]; simp [go_sem]
 have fr4 : w1.frozen? ⟨w.heap.size + 1, 4, none⟩ = false := by rw [f _ _ (by omega)]; simp [go_sem]
 have fo4 : w1.frozen? ⟨w.heap.size + 1 + 1, 4, none⟩ = false := by rw [f _ _ (by omega)]; simp [go_sem]
 have r5 : w1.cell? ⟨w.heap.size + 1, 5, none⟩ = some (.slice none 0 0) := by rw [c _ _ (by omega)]; simp [go_sem]
 have o5 : w1.cell? ⟨w.heap.size + 1 + 1, 5, none⟩ = some (.slice none 0 0) := by rw [c _ _ (by omega)]; simp [go_sem]
 have fr5 : w1.frozen? ⟨w.heap.size + 1, 5, none⟩ = false := by rw [f _ _ (by omega)]; simp [go_sem]
 have fo5 : w1.frozen? ⟨w.heap.size + 1 + 1, 5, none⟩ = false := by rw [f _ _ (by omega)]; simp [go_sem]
 have r6 : w1.cell? ⟨w.heap.size + 1, 6, none⟩ = some (.int .i64 0) := by rw [c _ _ (by omega)]; simp [go_sem]
 have o6 : w1.cell? ⟨w.heap.size + 1 + 1, 6, none⟩ = some (.int .i64 0) := by rw [c _ _ (by omega)]; simp [go_sem]
 have fr6 : w1.frozen? ⟨w.heap.size + 1, 6, none⟩ = false := by rw [f _ _ (by omega)]; simp [go_sem]
 have fo6 : w1.frozen? ⟨w.heap.size + 1 + 1, 6, none⟩ = false := by rw [f _ _ (by omega)]; simp [go_sem]
 have r7 : w1.cell? ⟨w.heap.size + 1, 7, none⟩ = some (.string ⟨#[]⟩) := by rw [c _ _ (by omega)]; simp [go_sem]
 have o7 : w1.cell? ⟨w.heap.size + 1 + 1, 7, none⟩ = some (.string ⟨#[]⟩) := by rw [c _ _ (by omega)]; simp [go_sem]
 have fr7 : w1.frozen? ⟨w.heap.size + 1, 7, none⟩ = false := by rw [f _ _ (by omega)]; simp [go_sem]
 have fo7 : w1.frozen? ⟨w.heap.size + 1 + 1, 7, none⟩ = false := by rw [f _ _ (by omega)]; simp [go_sem]
 have hz1 : w.heap.size + 3 ≤ w1.heap.size := by have := hx1.size; simp at this; omega
 clear c f hb1 h36 hx1 hB0
 go_wp2_with fail
 have otU : ∀ b j, (b ≠ w.heap.size + 1 + 1 ∨ (j ≠ 2 ∧ j ≠ 3 ∧ j ≠ 4)) → (((w1.setCell ⟨w.heap.size + 1 + 1, 2, none⟩ (.string x.km.nm)).setCell ⟨w.heap.size + 1 + 1, 3, none⟩ (.string x.km.tl)).setCell ⟨w.heap.size + 1 + 1, 4, none⟩ (.string x.km.ar)).cell? ⟨b, j, none⟩ = w1.cell? ⟨b, j, none⟩ := fun b j h => by
  rw [World.cell?_setCell_other _ _ _ _ (by intro e; injection e with e1 e2; omega), World.cell?_setCell_other _ _ _ _ (by intro e; injection e with e1 e2; omega), World.cell?_setCell_other _ _ _ _ (by intro e; injection e with e1 e2; omega)]
 have frU : ∀ b j, (((w1.setCell ⟨w.heap.size + 1 + 1, 2, none⟩ (.string x.km.nm)).setCell ⟨w.heap.size + 1 + 1, 3, none⟩ (.string x.km.tl)).setCell ⟨w.heap.size + 1 + 1, 4, none⟩ (.string x.km.ar)).frozen? ⟨b, j, none⟩ = w1.frozen? ⟨b, j, none⟩ := fun b j => by simp
 have S := set3_at w1 (w.heap.size + 1 + 1) 2 (.string x.km.nm) (.string x.km.tl) (.string x.km.ar) _ _ _ o2 o3 o4
 have hBU : Below w.heap.size w (((w1.setCell ⟨w.heap.size + 1 + 1, 2, none⟩ (.string x.km.nm)).setCell ⟨w.heap.size + 1 + 1, 3, none⟩ (.string x.km.tl)).setCell ⟨w.heap.size + 1 + 1, 4, none⟩ (.string x.km.ar)) := ((hB1.setCell (by simp; omega) _).setCell (by simp; omega) _).setCell (by simp; omega) _
 have hzU : w.heap.size + 3 ≤ (((w1.setCell ⟨w.heap.size + 1 + 1, 2, none⟩ (.string x.km.nm)).setCell ⟨w.heap.size + 1 + 1, 3, none⟩ (.string x.km.tl)).setCell ⟨w.heap.size + 1 + 1, 4, none⟩ (.string x.km.ar)).heap.size := by simpa using hz1
 generalize (((w1.setCell ⟨w.heap.size + 1 + 1, 2, none⟩ (.string x.km.nm)).setCell ⟨w.heap.size + 1 + 1, 3, none⟩ (.string x.km.tl)).setCell ⟨w.heap.size + 1 + 1, 4, none⟩ (.string x.km.ar)) = U at *
 obtain ⟨u2, u3, u4⟩ := S
 refine (c78o ai ci x.ls U hl (lks_below HA.out hBU)).mono ?_
 rintro e w2 ⟨⟨rfl, hL2, hU2⟩, hb2⟩
 have hB2 : Below w.heap.size w w2 := hBU.trans (hb2.mono hBU.size)
 have c2 : ∀ b j, b < w.heap.size + 3 → w2.cell? ⟨b, j, none⟩ = U.cell? ⟨b, j, none⟩ := fun b j h => hb2.cell (by show b < U.heap.size; omega)
 have f2 : ∀ b j, b < w.heap.size + 3 → w2.frozen? ⟨b, j, none⟩ = w1.frozen? ⟨b, j, none⟩ := fun b j h => (hb2.frozen (by show b < U.heap.size; omega)).trans (frU b j)
 have hz2 : U.heap.size < w2.heap.size ∨ x.ls = [] := by
  rcases hL2 with h | ⟨b, off, h1, h2, h3⟩
  · exact .inr h
  · injection h1 with h1; injection h1 with h1 _; exact .inl (by rw [h1]; exact h2)
 generalize hG : U.heap.size = G at *
 have p6 : w2.cell? ⟨w.heap.size, 6, none⟩ = some (.int .i64 x.cd) := ((c2 _ _ (by omega)).trans (otU _ _ (by omega))).trans a6
 have p7 : w2.cell? ⟨w.heap.size, 7, none⟩ = some (.string x.tx) := ((c2 _ _ (by omega)).trans (otU _ _ (by omega))).trans a7
 have s0 : w2.cell? ⟨w.heap.size + 1, 0, none⟩ = some (.string ⟨#[]⟩) := ((c2 _ _ (by omega)).trans (otU _ _ (by omega))).trans r0
 have q0 : w2.cell? ⟨w.heap.size + 1 + 1, 0, none⟩ = some (.string x.nm) := ((c2 _ _ (by omega)).trans (otU _ _ (by omega))).trans o0
 have fs0 : w2.frozen? ⟨w.heap.size + 1, 0, none⟩ = false := (f2 _ _ (by omega)).trans fr0
 have fq0 : w2.frozen? ⟨w.heap.size + 1 + 1, 0, none⟩ = false := (f2 _ _ (by omega)).trans fo0
 have s1 : w2.cell? ⟨w.heap.size + 1, 1, none⟩ = some (.bool false) := ((c2 _ _ (by omega)).trans (otU _ _ (by omega))).trans r1
 have q1 : w2.cell? ⟨w.heap.size + 1 + 1, 1, none⟩ = some (.bool x.made) := ((c2 _ _ (by omega)).trans (otU _ _ (by omega))).trans o1
 have fs1 : w2.frozen? ⟨w.heap.size + 1, 1, none⟩ = false := (f2 _ _ (by omega)).trans fr1
 have fq1 : w2.frozen? ⟨w.heap.size + 1 + 1, 1, none⟩ = false := (f2 _ _ (by omega)).trans fo1
 have s2 : w2.cell? ⟨w.heap.size + 1, 2, none⟩ = some (.string ⟨#[]⟩) := ((c2 _ _ (by omega)).trans (otU _ _ (by omega))).trans r2
 have q2 : w2.cell? ⟨w.heap.size + 1 + 1, 2, none⟩ = some (.string x.km.nm) := (c2 _ _ (by omega)).trans u2
 have fs2 : w2.frozen? ⟨w.heap.size + 1, 2, none⟩ = false := (f2 _ _ (by omega)).trans fr2
 have fq2 : w2.frozen? ⟨w.heap.size + 1 + 1, 2, none⟩ = false := (f2 _ _ (by omega)).trans fo2
 have s3 : w2.cell? ⟨w.heap.size + 1, 3, none⟩ = some (.string ⟨#[]⟩) := ((c2 _ _ (by omega)).trans (otU _ _ (by omega))).trans r3
 have q3 : w2.cell? ⟨w.heap.size + 1 + 1, 3, none⟩ = some (.string x.km.tl) := (c2 _ _ (by omega)).trans u3
 have fs3 : w2.frozen? ⟨w.heap.size + 1, 3, none⟩ = false := (f2 _ _ (by omega)).trans fr3
 have fq3 : w2.frozen? ⟨w.heap.size + 1 + 1, 3, none⟩ = false := (f2 _ _ (by omega)).trans fo3
 have s4 : w2.cell? ⟨w.heap.size + 1, 4, none⟩ = some (.string ⟨#[]⟩) := ((c2 _ _ (by omega)).trans (otU _ _ (by omega))).trans r4
 have q4 : w2.cell? ⟨w.heap.size + 1 + 1, 4, none⟩ = some (.string x.km.ar) := (c2 _ _ (by omega)).trans u4
 have fs4 : w2.frozen? ⟨w.heap.size + 1, 4, none⟩ = false := (f2 _ _ (by omega)).trans fr4
 have fq4 : w2.frozen? ⟨w.heap.size + 1 + 1, 4, none⟩ = false := (f2 _ _ (by omega)).trans fo4
 have s5 : w2.cell? ⟨w.heap.size + 1, 5, none⟩ = some (.slice none 0 0) := ((c2 _ _ (by omega)).trans (otU _ _ (by omega))).trans r5
 have q5 : w2.cell? ⟨w.heap.size + 1 + 1, 5, none⟩ = some (.slice none 0 0) := ((c2 _ _ (by omega)).trans (otU _ _ (by omega))).trans o5
 have fs5 : w2.frozen? ⟨w.heap.size + 1, 5, none⟩ = false := (f2 _ _ (by omega)).trans fr5
 have fq5 : w2.frozen? ⟨w.heap.size + 1 + 1, 5, none⟩ = false := (f2 _ _ (by omega)).trans fo5
 have s6 : w2.cell? ⟨w.heap.size + 1, 6, none⟩ = some (.int .i64 0) := ((c2 _ _ (by omega)).trans (otU _ _ (by omega))).trans r6
 have q6 : w2.cell? ⟨w.heap.size + 1 + 1, 6, none⟩ = some (.int .i64 0) := ((c2 _ _ (by omega)).trans (otU _ _ (by omega))).trans o6
 have fs6 : w2.frozen? ⟨w.heap.size + 1, 6, none⟩ = false := (f2 _ _ (by omega)).trans fr6
 have fq6 : w2.frozen? ⟨w.heap.size + 1 + 1, 6, none⟩ = false := (f2 _ _ (by omega)).trans fo6
 have s7 : w2.cell? ⟨w.heap.size + 1, 7, none⟩ = some (.string ⟨#[]⟩) := ((c2 _ _ (by omega)).trans (otU _ _ (by omega))).trans r7
 have q7 : w2.cell? ⟨w.heap.size + 1 + 1, 7, none⟩ = some (.string ⟨#[]⟩) := ((c2 _ _ (by omega)).trans (otU _ _ (by omega))).trans o7
 have fs7 : w2.frozen? ⟨w.heap.size + 1, 7, none⟩ = false := (f2 _ _ (by omega)).trans fr7
 have fq7 : w2.frozen? ⟨w.heap.size + 1 + 1, 7, none⟩ = false := (f2 _ _ (by omega)).trans fo7
 have HU : Hid (Unf w2 G) := hU2
 have HL : Hid (LksAt w2 (some ⟨G, 0, none⟩) x.ls) := hL2
 have hb2s : w.heap.size + 3 ≤ w2.heap.size := by have := hb2.size; omega
 have hGz : w.heap.size + 3 ≤ G := hzU
 clear hU2 hL2 hb2 c2 f2 otU frU u2 u3 u4 a5 a6 a7 r0 o0 fr0 fo0 r1 o1 fr1 fo1 r2 o2 fr2 fo2 r3 o3 fr3 fo3 r4 o4 fr4 fo4 r5 o5 fr5 fo5 r6 o6 fr6 fo6 r7 o7 fr7 fo7
 go_wp2_with fail
 have otV : ∀ b j, (b ≠ w.heap.size + 1 + 1 ∨ j ≠ 5) → (w2.setCell ⟨w.heap.size + 1 + 1, 5, none⟩ (.slice (some ⟨G, 0, none⟩) x.ls.length x.ls.length)).cell? ⟨b, j, none⟩ = w2.cell? ⟨b, j, none⟩ := fun b j h => by
  rw [World.cell?_setCell_other _ _ _ _ (by intro e; injection e with e1 e2; omega)]
 have frV : ∀ b j, (w2.setCell ⟨w.heap.size + 1 + 1, 5, none⟩ (.slice (some ⟨G, 0, none⟩) x.ls.length x.ls.length)).frozen? ⟨b, j, none⟩ = w2.frozen? ⟨b, j, none⟩ := fun b j => by simp
 have v5 := World.cell?_setCell_same w2 ⟨w.heap.size + 1 + 1, 5, none⟩ (.slice (some ⟨G, 0, none⟩) x.ls.length x.ls.length) q5
 have hBV : Below w.heap.size w (w2.setCell ⟨w.heap.size + 1 + 1, 5, none⟩ (.slice (some ⟨G, 0, none⟩) x.ls.length x.ls.length)) := hB2.setCell (by simp; omega) _
 have hzV : w.heap.size + 3 ≤ (w2.setCell ⟨w.heap.size + 1 + 1, 5, none⟩ (.slice (some ⟨G, 0, none⟩) x.ls.length x.ls.length)).heap.size := by simpa using hb2s
 have HLV : Hid (LksAt (w2.setCell ⟨w.heap.size + 1 + 1, 5, none⟩ (.slice (some ⟨G, 0, none⟩) x.ls.length x.ls.length)) (some ⟨G, 0, none⟩) x.ls) := lks_set HL.out (fun b off h _ => by injection h with h; injection h with h _; show w.heap.size + 1 + 1 ≠ b; omega)
 have HUV : Hid (Unf (w2.setCell ⟨w.heap.size + 1 + 1, 5, none⟩ (.slice (some ⟨G, 0, none⟩) x.ls.length x.ls.length)) G) := HU.out.set
 generalize w2.setCell ⟨w.heap.size + 1 + 1, 5, none⟩ (Value.slice (some ⟨G, 0, none⟩) x.ls.length x.ls.length) = V at *
 refine (c79 x.cd x.tx V).mono ?_
 rintro e w3 ⟨rfl, hb3⟩
 have hB3 : Below w.heap.size w w3 := hBV.trans (hb3.mono hBV.size)
 have cx3 : ∀ b j, b < w.heap.size + 3 → w3.cell? ⟨b, j, none⟩ = V.cell? ⟨b, j, none⟩ := fun b j h => hb3.cell (by show b < V.heap.size; omega)
 have f3 : ∀ b j, b < w.heap.size + 3 → w3.frozen? ⟨b, j, none⟩ = w2.frozen? ⟨b, j, none⟩ := fun b j h => (hb3.frozen (by show b < V.heap.size; omega)).trans (frV b j)
 have HU3 : Hid (Unf w3 G) := HUV.out.below hb3
 have HL3 : Hid (LksAt w3 (some ⟨G, 0, none⟩) x.ls) := lks_below HLV.out hb3
 have t0 : w3.cell? ⟨w.heap.size + 1, 0, none⟩ = some (.string ⟨#[]⟩) := ((cx3 _ _ (by omega)).trans (otV _ _ (by omega))).trans s0
 have z0 : w3.cell? ⟨w.heap.size + 1 + 1, 0, none⟩ = some (.string x.nm) := ((cx3 _ _ (by omega)).trans (otV _ _ (by omega))).trans q0
 have ft0 : w3.frozen? ⟨w.heap.size + 1, 0, none⟩ = false := (f3 _ _ (by omega)).trans fs0
 have fz0 : w3.frozen? ⟨w.heap.size + 1 + 1, 0, none⟩ = false := (f3 _ _ (by omega)).trans fq0
 have t1 : w3.cell? ⟨w.heap.size + 1, 1, none⟩ = some (.bool false) := ((cx3 _ _ (by omega)).trans (otV _ _ (by omega))).trans s1
 have z1 : w3.cell? ⟨w.heap.size + 1 + 1, 1, none⟩ = some (.bool x.made) := ((cx3 _ _ (by omega)).trans (otV _ _ (by omega))).trans q1
 have ft1 : w3.frozen? ⟨w.heap.size + 1, 1, none⟩ = false := (f3 _ _ (by omega)).trans fs1
 have fz1 : w3.frozen? ⟨w.heap.size + 1 + 1, 1, none⟩ = false := (f3 _ _ (by omega)).trans fq1
 have t2 : w3.cell? ⟨w.heap.size + 1, 2, none⟩ = some (.string ⟨#[]⟩) := ((cx3 _ _ (by omega)).trans (otV _ _ (by omega))).trans s2
 have z2 : w3.cell? ⟨w.heap.size + 1 + 1, 2, none⟩ = some (.string x.km.nm) := ((cx3 _ _ (by omega)).trans (otV _ _ (by omega))).trans q2
 have ft2 : w3.frozen? ⟨w.heap.size + 1, 2, none⟩ = false := (f3 _ _ (by omega)).trans fs2
 have fz2 : w3.frozen? ⟨w.heap.size + 1 + 1, 2, none⟩ = false := (f3 _ _ (by omega)).trans fq2
 have t3 : w3.cell? ⟨w.heap.size + 1, 3, none⟩ = some (.string ⟨#[]⟩) := ((cx3 _ _ (by omega)).trans (otV _ _ (by omega))).trans s3
 have z3 : w3.cell? ⟨w.heap.size + 1 + 1, 3, none⟩ = some (.string x.km.tl) := ((cx3 _ _ (by omega)).trans (otV _ _ (by omega))).trans q3
 have ft3 : w3.frozen? ⟨w.heap.size + 1, 3, none⟩ = false := (f3 _ _ (by omega)).trans fs3
 have fz3 : w3.frozen? ⟨w.heap.size + 1 + 1, 3, none⟩ = false := (f3 _ _ (by omega)).trans fq3
 have t4 : w3.cell? ⟨w.heap.size + 1, 4, none⟩ = some (.string ⟨#[]⟩) := ((cx3 _ _ (by omega)).trans (otV _ _ (by omega))).trans s4
 have z4 : w3.cell? ⟨w.heap.size + 1 + 1, 4, none⟩ = some (.string x.km.ar) := ((cx3 _ _ (by omega)).trans (otV _ _ (by omega))).trans q4
 have ft4 : w3.frozen? ⟨w.heap.size + 1, 4, none⟩ = false := (f3 _ _ (by omega)).trans fs4
 have fz4 : w3.frozen? ⟨w.heap.size + 1 + 1, 4, none⟩ = false := (f3 _ _ (by omega)).trans fq4
 have t5 : w3.cell? ⟨w.heap.size + 1, 5, none⟩ = some (.slice none 0 0) := ((cx3 _ _ (by omega)).trans (otV _ _ (by omega))).trans s5
 have z5 : w3.cell? ⟨w.heap.size + 1 + 1, 5, none⟩ = some (Value.slice (some ⟨G, 0, none⟩) x.ls.length x.ls.length) := (cx3 _ _ (by omega)).trans v5
 have ft5 : w3.frozen? ⟨w.heap.size + 1, 5, none⟩ = false := (f3 _ _ (by omega)).trans fs5
 have fz5 : w3.frozen? ⟨w.heap.size + 1 + 1, 5, none⟩ = false := (f3 _ _ (by omega)).trans fq5
 have t6 : w3.cell? ⟨w.heap.size + 1, 6, none⟩ = some (.int .i64 0) := ((cx3 _ _ (by omega)).trans (otV _ _ (by omega))).trans s6
 have z6 : w3.cell? ⟨w.heap.size + 1 + 1, 6, none⟩ = some (.int .i64 0) := ((cx3 _ _ (by omega)).trans (otV _ _ (by omega))).trans q6
 have ft6 : w3.frozen? ⟨w.heap.size + 1, 6, none⟩ = false := (f3 _ _ (by omega)).trans fs6
 have fz6 : w3.frozen? ⟨w.heap.size + 1 + 1, 6, none⟩ = false := (f3 _ _ (by omega)).trans fq6
 have t7 : w3.cell? ⟨w.heap.size + 1, 7, none⟩ = some (.string ⟨#[]⟩) := ((cx3 _ _ (by omega)).trans (otV _ _ (by omega))).trans s7
 have z7 : w3.cell? ⟨w.heap.size + 1 + 1, 7, none⟩ = some (.string ⟨#[]⟩) := ((cx3 _ _ (by omega)).trans (otV _ _ (by omega))).trans q7
 have ft7 : w3.frozen? ⟨w.heap.size + 1, 7, none⟩ = false := (f3 _ _ (by omega)).trans fs7
 have fz7 : w3.frozen? ⟨w.heap.size + 1 + 1, 7, none⟩ = false := (f3 _ _ (by omega)).trans fq7
 clear HU HUV HL HLV hb3 cx3 f3 otV frV v5 s0 q0 fs0 fq0 s1 q1 fs1 fq1 s2 q2 fs2 fq2 s3 q3 fs3 fq3 s4 q4 fs4 fq4 s5 q5 fs5 fq5 s6 q6 fs6 fq6 s7 q7 fs7 fq7 p6 p7
 go_wp2
 have ne : ∀ i j, (⟨w.heap.size + 1 + 1, i, none⟩ : Addr) ≠ ⟨w.heap.size + 1, j, none⟩ := fun i j e => by injection e with e _; omega
 have qq : ∀ j, ((w3.setCell ⟨w.heap.size + 1 + 1, 6, none⟩ (.int .i64 x.cd)).setCell ⟨w.heap.size + 1 + 1, 7, none⟩ (.string x.tx)).cell? ⟨w.heap.size + 1, j, none⟩ = w3.cell? ⟨w.heap.size + 1, j, none⟩ := fun j => by rw [World.cell?_setCell_other _ _ _ _ (ne _ _), World.cell?_setCell_other _ _ _ _ (ne _ _)]
 have hBW : Below w.heap.size w ((w3.setCell ⟨w.heap.size + 1 + 1, 6, none⟩ (.int .i64 x.cd)).setCell ⟨w.heap.size + 1 + 1, 7, none⟩ (.string x.tx)) := (hB3.setCell (by simp; omega) _).setCell (by simp; omega) _
 have HLW : Hid (LksAt ((w3.setCell ⟨w.heap.size + 1 + 1, 6, none⟩ (.int .i64 x.cd)).setCell ⟨w.heap.size + 1 + 1, 7, none⟩ (.string x.tx)) (some ⟨G, 0, none⟩) x.ls) := lks_set (lks_set HL3.out (fun b off h _ => by injection h with h; injection h with h _; show w.heap.size + 1 + 1 ≠ b; omega)) (fun b off h _ => by injection h with h; injection h with h _; show w.heap.size + 1 + 1 ≠ b; omega)
 have HUW : Hid (Unf ((w3.setCell ⟨w.heap.size + 1 + 1, 6, none⟩ (.int .i64 x.cd)).setCell ⟨w.heap.size + 1 + 1, 7, none⟩ (.string x.tx)) G) := HU3.out.set.set
 generalize ((w3.setCell ⟨w.heap.size + 1 + 1, 6, none⟩ (.int .i64 x.cd)).setCell ⟨w.heap.size + 1 + 1, 7, none⟩ (.string x.tx)) = W at *
 generalize hS : Value.slice (some ⟨G, 0, none⟩) x.ls.length x.ls.length = SL at *
 obtain ⟨F0, F1, F2, F3, F4, F5, F6, F7⟩ := set8_at W (w.heap.size + 1) (.string x.nm) (.bool x.made) (.string x.km.nm) (.string x.km.tl) (.string x.km.ar) SL (.int .i64 x.cd) (.string x.tx) _ _ _ _ _ _ _ _ ((qq 0).trans t0) ((qq 1).trans t1) ((qq 2).trans t2) ((qq 3).trans t3) ((qq 4).trans t4) ((qq 5).trans t5) ((qq 6).trans t6) ((qq 7).trans t7)
 refine bodyPost_ret (v := .agg #[.string x.nm, .bool x.made, .string x.km.nm, .string x.km.tl, .string x.km.ar, SL, .int .i64 x.cd, .string x.tx]) (by simp [results, Tryz.results39, go_sem, F0, F1, F2, F3, F4, F5, F6, F7]) rfl ⟨⟨G, by omega, by rw [← hS], ?_⟩, ?_⟩
 · exact ⟨(lks_set (lks_set (lks_set (lks_set (lks_set (lks_set (lks_set (lks_set HLW.out (fun b off h _ => by injection h with h; injection h with h _; show w.heap.size + 1 ≠ b; omega)) (fun b off h _ => by injection h with h; injection h with h _; show w.heap.size + 1 ≠ b; omega)) (fun b off h _ => by injection h with h; injection h with h _; show w.heap.size + 1 ≠ b; omega)) (fun b off h _ => by injection h with h; injection h with h _; show w.heap.size + 1 ≠ b; omega)) (fun b off h _ => by injection h with h; injection h with h _; show w.heap.size + 1 ≠ b; omega)) (fun b off h _ => by injection h with h; injection h with h _; show w.heap.size + 1 ≠ b; omega)) (fun b off h _ => by injection h with h; injection h with h _; show w.heap.size + 1 ≠ b; omega)) (fun b off h _ => by injection h with h; injection h with h _; show w.heap.size + 1 ≠ b; omega)), HUW.out.set.set.set.set.set.set.set.set⟩
 · exact (((((((hBW.setCell (by simp) _).setCell (by simp) _).setCell (by simp) _).setCell (by simp) _).setCell (by simp) _).setCell (by simp) _).setCell (by simp) _).setCell (by simp) _
def DeedO (L : Nat) (w : World) (b o : Nat) (x : D8) : Prop := ∃ gi, L ≤ gi ∧ (w.cell? ⟨b, o, none⟩ = some (.string x.nm) ∧ w.cell? ⟨b, o + 1, none⟩ = some (.bool x.made) ∧ w.cell? ⟨b, o + 2, none⟩ = some (.string x.km.nm) ∧ w.cell? ⟨b, o + 3, none⟩ = some (.string x.km.tl) ∧ w.cell? ⟨b, o + 4, none⟩ = some (.string x.km.ar) ∧ w.cell? ⟨b, o + 5, none⟩ = some (.slice (some ⟨gi, 0, none⟩) x.ls.length x.ls.length) ∧ w.cell? ⟨b, o + 6, none⟩ = some (.int .i64 x.cd) ∧ w.cell? ⟨b, o + 7, none⟩ = some (.string x.tx)) ∧ LksAt w (some ⟨gi, 0, none⟩) x.ls ∧ Unf w gi
theorem DeedO.deed {L : Nat} {w : World} {b o : Nat} {x : D8} (h : DeedO L w b o x) : DeedAt w b o x := by
 obtain ⟨gi, _, h0, h1, _⟩ := h
 exact ⟨_, _, h0, h1⟩
theorem DeedO.below {L : Nat} {w w' : World} {b o : Nat} {x : D8} (h : DeedO L w b o x) (hlt : b < w.heap.size) (hb : Below w.heap.size w w') : DeedO L w' b o x := by
 obtain ⟨gi, hg, h0, h3, h4⟩ := h
 refine ⟨gi, hg, ?_, lks_below h3 hb, h4.below hb⟩
 have e : ∀ j, w'.cell? ⟨b, j, none⟩ = w.cell? ⟨b, j, none⟩ := fun j => hb.cell (by exact hlt)
 rw [e, e, e, e, e, e, e, e]
 exact h0
def DeedsO (w : World) (g : Nat) (is : List D8) : Prop := Unf w g ∧ ∀ i, i < is.length → DeedO (g + 1) w g (i * 8) (is.getD i d8z)
theorem DeedsO.deeds {w : World} {g : Nat} {is : List D8} (h : DeedsO w g is) : DeedsAt w (some ⟨g, 0, none⟩) is := .inr ⟨g, 0, rfl, h.1.1, fun i hi => by rw [Nat.zero_add]; exact (h.2 i hi).deed⟩
set_option maxHeartbeats 4000000 in
theorem c12o (a : Option Addr) (cap : Nat) (is : List D8) (w : World) (hl : is.length ≤ 1048576) (hs : ∀ i, (is.getD i d8z).le 1048576) (hat : DeedsAt w a is) :
 Calls Tryz.prog 12 #[.slice a is.length cap] w fun e w' => (e = .returned (.slice (some ⟨w.heap.size, 0, none⟩) is.length is.length) ∧ DeedsO w' w.heap.size is) ∧ Below w.heap.size w w' := by
 obtain ⟨b, off, hc⟩ := deeds_some hat
 have HC : Hid (is = [] ∨ (a = some ⟨b, off, none⟩ ∧ b < w.heap.size ∧ ∀ i, i < is.length → DeedAt w b (off + i * 8) (is.getD i d8z))) := hc
 have HS : Hid (∀ i, (is.getD i d8z).le 1048576) := hs
 clear hc hat hs
 obtain ⟨i0, hi, hz0, hz1, hz2⟩ := info_parts info78
 have hmk : ∀ u : World, (Instr.makeSlice 53 (.int .i64 (is.length : Int)) (.int .i64 (is.length : Int))).run Tryz.prog u =
  .ok (.slice (some ⟨u.heap.size, 0, none⟩) is.length is.length) (u.alloc (.cells (madeCells #[Value.string ⟨#[]⟩, .bool false, .string ⟨#[]⟩, .string ⟨#[]⟩, .string ⟨#[]⟩, .slice none 0 0, .int .i64 0, .string ⟨#[]⟩] (is.length * 8)) 78)) := fun u => by
  have h := run_make (P := Tryz.prog) u 53 78 i0 (.agg #[Value.string ⟨#[]⟩, .bool false, .string ⟨#[]⟩, .string ⟨#[]⟩, .string ⟨#[]⟩, .slice none 0 0, .int .i64 0, .string ⟨#[]⟩]) Tryz.underlying53 hi hz0 .i64 .i64 (is.length : Int) (is.length : Int) (by omega) (Int.le_refl _) (by rw [hz2]; omega) (by omega)
  simpa [hz1, Value.cells] using h
 go_enter Tryz.func12, Tryz.ntmps12
 go_wp2_with fail
 go_loopw [4] (fun i wr => ∃ (k : Nat), k ≤ is.length ∧ i = .int .i64 k ∧ Below w.heap.size w wr ∧ w.heap.size + 1 ≤ wr.heap.size ∧ (∀ j, wr.frozen? ⟨w.heap.size, j, none⟩ = false) ∧ Hid (∀ j, j < k → DeedO (w.heap.size + 1) wr w.heap.size (j * 8) (is.getD j d8z)) ∧ Hid (∀ j, k ≤ j → j < is.length → wr.cell? ⟨w.heap.size, j * 8, none⟩ = some (.string ⟨#[]⟩) ∧ wr.cell? ⟨w.heap.size, j * 8 + 1, none⟩ = some (.bool false) ∧ wr.cell? ⟨w.heap.size, j * 8 + 2, none⟩ = some (.string ⟨#[]⟩) ∧ wr.cell? ⟨w.heap.size, j * 8 + 3, none⟩ = some (.string ⟨#[]⟩) ∧ wr.cell? ⟨w.heap.size, j * 8 + 4, none⟩ = some (.string ⟨#[]⟩) ∧ wr.cell? ⟨w.heap.size, j * 8 + 5, none⟩ = some (.slice none 0 0) ∧ wr.cell? ⟨w.heap.size, j * 8 + 6, none⟩ = some (.int .i64 0) ∧ wr.cell? ⟨w.heap.size, j * 8 + 7, none⟩ = some (.string ⟨#[]⟩))) (fun i _ => is.length - (intOf i).toNat)
 case atStart =>
  refine ⟨0, Nat.zero_le _, rfl, (Below.refl _ _).alloc (Nat.le_refl _) _, by simp, fun j => by simp, fun j h => absurd h (Nat.not_lt_zero _), fun j _ h => ?_⟩
  have e0 := madeD is.length (j * 8) (by omega)
  rw [show (j * 8) % 8 = 0 by omega] at e0
  have e1 := madeD is.length (j * 8 + 1) (by omega)
  rw [show (j * 8 + 1) % 8 = 1 by omega] at e1
  have e2 := madeD is.length (j * 8 + 2) (by omega)
  rw [show (j * 8 + 2) % 8 = 2 by omega] at e2
  have e3 := madeD is.length (j * 8 + 3) (by omega)
  rw [show (j * 8 + 3) % 8 = 3 by omega] at e3
  have e4 := madeD is.length (j * 8 + 4) (by omega)
  rw [show (j * 8 + 4) % 8 = 4 by omega] at e4
  have e5 := madeD is.length (j * 8 + 5) (by omega)
  rw [show (j * 8 + 5) % 8 = 5 by omega] at e5
  have e6 := madeD is.length (j * 8 + 6) (by omega)
  rw [show (j * 8 + 6) % 8 = 6 by omega] at e6
  have e7 := madeD is.length (j * 8 + 7) (by omega)
  rw [show (j * 8 + 7) % 8 = 7 by omega] at e7
  simp [e0, e1, e2, e3, e4, e5, e6, e7]
 case round =>
  obtain ⟨k, hk, rfl, hb, hz, hfz, hdone, hrest⟩ := hrel
  by_cases hlt : k < is.length
  · rcases HC.out with hss | ⟨ha, hbw, hcell⟩
    · rw [hss] at hlt; exact absurd hlt (Nat.not_lt_zero _)
    subst ha
    obtain ⟨ai, ci, ⟨g0, g1, g2, g3, g4, g5, g6, g7⟩, hg⟩ := (hcell k hlt).below hbw hb
    obtain ⟨q0, q1, q2, q3, q4, q5, q6, q7⟩ := hrest.out k (Nat.le_refl _) hlt
    have hxl := (HS.out k).2.2.1.1
    generalize hx : is.getD k d8z = x at *
    have HX : Hid (is.getD k d8z = x) := hx
    have HG : Hid (LksAt wr ai x.ls) := hg
    clear hx hcell hg
    go_wp2_with fail
    refine (c39o x ai ci wr hxl HG.out).mono ?_
    rintro e w1 ⟨⟨gi, hgi, rfl, hg1, hu1⟩, hb1⟩
    have hB1 : Below w.heap.size w w1 := hb.trans (hb1.mono hb.size)
    have p0 := (hb1.cell (p := ⟨w.heap.size, k * 8, none⟩) (by simp; omega)).trans q0
    have f0 := (hb1.frozen (p := ⟨w.heap.size, k * 8, none⟩) (by simp; omega)).trans (hfz _)
    have p1 := (hb1.cell (p := ⟨w.heap.size, k * 8 + 1, none⟩) (by simp; omega)).trans q1
    have f1 := (hb1.frozen (p := ⟨w.heap.size, k * 8 + 1, none⟩) (by simp; omega)).trans (hfz _)
    have p2 := (hb1.cell (p := ⟨w.heap.size, k * 8 + 2, none⟩) (by simp; omega)).trans q2
    have f2 := (hb1.frozen (p := ⟨w.heap.size, k * 8 + 2, none⟩) (by simp; omega)).trans (hfz _)
    have p3 := (hb1.cell (p := ⟨w.heap.size, k * 8 + 3, none⟩) (by simp; omega)).trans q3
    have f3 := (hb1.frozen (p := ⟨w.heap.size, k * 8 + 3, none⟩) (by simp; omega)).trans (hfz _)
    have p4 := (hb1.cell (p := ⟨w.heap.size, k * 8 + 4, none⟩) (by simp; omega)).trans q4
    have f4 := (hb1.frozen (p := ⟨w.heap.size, k * 8 + 4, none⟩) (by simp; omega)).trans (hfz _)
    have p5 := (hb1.cell (p := ⟨w.heap.size, k * 8 + 5, none⟩) (by simp; omega)).trans q5
    have f5 := (hb1.frozen (p := ⟨w.heap.size, k * 8 + 5, none⟩) (by simp; omega)).trans (hfz _)
    have p6 := (hb1.cell (p := ⟨w.heap.size, k * 8 + 6, none⟩) (by simp; omega)).trans q6
    have f6 := (hb1.frozen (p := ⟨w.heap.size, k * 8 + 6, none⟩) (by simp; omega)).trans (hfz _)
    have p7 := (hb1.cell (p := ⟨w.heap.size, k * 8 + 7, none⟩) (by simp; omega)).trans q7
    have f7 := (hb1.frozen (p := ⟨w.heap.size, k * 8 + 7, none⟩) (by simp; omega)).trans (hfz _)
    have hoz : w.heap.size + 1 ≤ w1.heap.size := Nat.le_trans hz hb1.size
    have HFZ : Hid (∀ j, w1.frozen? ⟨w.heap.size, j, none⟩ = false) := fun j => (hb1.frozen (p := ⟨w.heap.size, j, none⟩) (by simp; omega)).trans (hfz j)
    have HO : Hid (∀ j, w1.cell? ⟨w.heap.size, j, none⟩ = wr.cell? ⟨w.heap.size, j, none⟩) := fun j => hb1.cell (by simp; omega)
    have HD1 : Hid (∀ j, j < k → DeedO (w.heap.size + 1) w1 w.heap.size (j * 8) (is.getD j d8z)) := fun j hj => (hdone.out j hj).below (by omega) hb1
    have HG1 : Hid (LksAt w1 (some ⟨gi, 0, none⟩) x.ls) := hg1
    have HU1 : Hid (Unf w1 gi) := hu1
    clear hg1 hu1
    go_wp2
    go_roundw
    case rel =>
     refine ⟨k + 1, by omega, by go_num, (((((((hB1.setCell (by simp) _).setCell (by simp) _).setCell (by simp) _).setCell (by simp) _).setCell (by simp) _).setCell (by simp) _).setCell (by simp) _).setCell (by simp) _, by simpa using hoz, fun j => by rw [← HFZ.out j]; simp, fun j hj => ?_, fun j h1 h2 => ?_⟩
     · by_cases e : j = k
       · subst e
         rw [HX.out]
         exact ⟨gi, by omega, set8j_at w1 w.heap.size (j * 8) _ _ _ _ _ _ _ _ _ _ _ _ _ _ _ _ p0 p1 p2 p3 p4 p5 p6 p7, lks_set8 _ _ _ _ _ _ _ _ HG1.out (by omega), HU1.out.set.set.set.set.set.set.set.set⟩
       · obtain ⟨hi', hgi', d0, d3, d4⟩ := HD1.out j (by omega)
         refine ⟨hi', hgi', ?_, lks_set8 _ _ _ _ _ _ _ _ d3 (by omega), d4.set.set.set.set.set.set.set.set⟩
         rw [set8j_other _ _ _ _ _ _ _ _ _ _ _ _ (by omega), set8j_other _ _ _ _ _ _ _ _ _ _ _ _ (by omega), set8j_other _ _ _ _ _ _ _ _ _ _ _ _ (by omega), set8j_other _ _ _ _ _ _ _ _ _ _ _ _ (by omega), set8j_other _ _ _ _ _ _ _ _ _ _ _ _ (by omega), set8j_other _ _ _ _ _ _ _ _ _ _ _ _ (by omega), set8j_other _ _ _ _ _ _ _ _ _ _ _ _ (by omega), set8j_other _ _ _ _ _ _ _ _ _ _ _ _ (by omega)]
         exact d0
     · have hd := hrest.out j (by omega) h2
       rw [set8j_other _ _ _ _ _ _ _ _ _ _ _ _ (by omega), set8j_other _ _ _ _ _ _ _ _ _ _ _ _ (by omega), set8j_other _ _ _ _ _ _ _ _ _ _ _ _ (by omega), set8j_other _ _ _ _ _ _ _ _ _ _ _ _ (by omega), set8j_other _ _ _ _ _ _ _ _ _ _ _ _ (by omega), set8j_other _ _ _ _ _ _ _ _ _ _ _ _ (by omega), set8j_other _ _ _ _ _ _ _ _ _ _ _ _ (by omega), set8j_other _ _ _ _ _ _ _ _ _ _ _ _ (by omega), HO.out, HO.out, HO.out, HO.out, HO.out, HO.out, HO.out, HO.out]
       exact hd
    case measure => simp [intOf]; omega
  · have hdone' : Hid (DeedsO wr w.heap.size is) := ⟨⟨by omega, hfz⟩, fun i hi => hdone.out i (by omega)⟩
    go_wp2
    go_ret
    exact ⟨⟨rfl, hdone'.out⟩, hb⟩
end Go.Proofs.YtboojefodbjbcaaGreatDoor.G
