import Derived.Test.YtkhlekmicpmpkaaGreatDoorZK34
import Derived.Laws.OwnMore
import Derived.Test.YtkhlekmicpmpkaaGreatDoorME
import Derived.Test.YtkhlekmicpmpkaaGreatDoorMD
namespace Go.Proofs.YtkhlekmicpmpkaaGreatDoor
open Go.RowKit
set_option maxRecDepth 100000
theorem info61 : (Tryz.prog.info? 61).map (fun i => (i.zero, i.size, i.bytes)) = some (some (.agg #[Value.bool false, .string ⟨#[]⟩, .int .i64 0, .string ⟨#[]⟩]), 4, 48) := by kernel_rfl
theorem madeL (n j : Nat) (h : j < n * 4) : (madeCells #[Value.bool false, .string ⟨#[]⟩, .int .i64 0, .string ⟨#[]⟩] (n * 4))[j]? = (#[Value.bool false, .string ⟨#[]⟩, .int .i64 0, .string ⟨#[]⟩] : Array Value)[j % 4]? := by
 have h3 : j % 4 < 4 := Nat.mod_lt _ (by omega)
 rw [Array.getElem?_eq_getElem (by simpa [size_madeCells] using h), Array.getElem?_eq_getElem (by simpa using h3)]
 simp [madeCells, h3]
set_option maxHeartbeats 1000000 in
theorem c11 (a : Option Addr) (cap : Nat) (is : List L4) (w : World) (hl : is.length ≤ 1048576) (hat : LksAt w a is) :
 Calls Tryz.prog 11 #[.slice a is.length cap] w fun e w' => (e = .returned (.slice (some ⟨w.heap.size, 0, none⟩) is.length is.length) ∧ LksAt w' (some ⟨w.heap.size, 0, none⟩) is) ∧ Below w.heap.size w w' := by
 obtain ⟨b, off, hc⟩ := lks_some hat
 have HC : Hid (is = [] ∨ (a = some ⟨b, off, none⟩ ∧ b < w.heap.size ∧ ∀ i, i < is.length → w.cell? ⟨b, off + i * 4, none⟩ = some (.bool (is.getD i l4z).has) ∧ w.cell? ⟨b, off + i * 4 + 1, none⟩ = some (.string (is.getD i l4z).nm) ∧ w.cell? ⟨b, off + i * 4 + 2, none⟩ = some (.int .i64 (is.getD i l4z).cd) ∧ w.cell? ⟨b, off + i * 4 + 3, none⟩ = some (.string (is.getD i l4z).tx))) := hc
 clear hc hat
 obtain ⟨i0, hi, hz0, hz1, hz2⟩ := info_parts info61
 have hmk : ∀ u : World, (Instr.makeSlice 43 (.int .i64 (is.length : Int)) (.int .i64 (is.length : Int))).run Tryz.prog u =
  .ok (.slice (some ⟨u.heap.size, 0, none⟩) is.length is.length) (u.alloc (.cells (madeCells #[.bool false, .string ⟨#[]⟩, .int .i64 0, .string ⟨#[]⟩] (is.length * 4)) 61)) := fun u => by
  have h := run_make (P := Tryz.prog) u 43 61 i0 (.agg #[.bool false, .string ⟨#[]⟩, .int .i64 0, .string ⟨#[]⟩]) Tryz.underlying43 hi hz0 .i64 .i64 (is.length : Int) (is.length : Int) (by omega) (Int.le_refl _) (by rw [hz2]; omega) (by omega)
  simpa [hz1, Value.cells] using h
 go_enter Tryz.func11, Tryz.ntmps11
 go_wp2_with fail
 go_loopw [4] (fun i wr => ∃ (k : Nat), k ≤ is.length ∧ i = .int .i64 k ∧ Below w.heap.size w wr ∧ w.heap.size + 1 ≤ wr.heap.size ∧ (∀ j, wr.frozen? ⟨w.heap.size, j, none⟩ = false) ∧ Hid (∀ j, j < k → wr.cell? ⟨w.heap.size, j * 4, none⟩ = some (.bool (is.getD j l4z).has) ∧ wr.cell? ⟨w.heap.size, j * 4 + 1, none⟩ = some (.string (is.getD j l4z).nm) ∧ wr.cell? ⟨w.heap.size, j * 4 + 2, none⟩ = some (.int .i64 (is.getD j l4z).cd) ∧ wr.cell? ⟨w.heap.size, j * 4 + 3, none⟩ = some (.string (is.getD j l4z).tx)) ∧ Hid (∀ j, k ≤ j → j < is.length → wr.cell? ⟨w.heap.size, j * 4, none⟩ = some (.bool false) ∧ wr.cell? ⟨w.heap.size, j * 4 + 1, none⟩ = some (.string ⟨#[]⟩) ∧ wr.cell? ⟨w.heap.size, j * 4 + 2, none⟩ = some (.int .i64 0) ∧ wr.cell? ⟨w.heap.size, j * 4 + 3, none⟩ = some (.string ⟨#[]⟩))) (fun i _ => is.length - (intOf i).toNat)
 case atStart =>
  refine ⟨0, Nat.zero_le _, rfl, (Below.refl _ _).alloc (Nat.le_refl _) _, by simp, fun j => by simp, fun j h => absurd h (Nat.not_lt_zero _), fun j _ h => ?_⟩
  have e0 := madeL is.length (j * 4) (by omega)
  have e1 := madeL is.length (j * 4 + 1) (by omega)
  have e2 := madeL is.length (j * 4 + 2) (by omega)
  have e3 := madeL is.length (j * 4 + 3) (by omega)
  rw [show j * 4 % 4 = 0 by omega] at e0
  rw [show (j * 4 + 1) % 4 = 1 by omega] at e1
  rw [show (j * 4 + 2) % 4 = 2 by omega] at e2
  rw [show (j * 4 + 3) % 4 = 3 by omega] at e3
  simp [e0, e1, e2, e3]
 case round =>
  obtain ⟨k, hk, rfl, hb, hz, hfz, hdone, hrest⟩ := hrel
  by_cases hlt : k < is.length
  · rcases HC.out with hss | ⟨ha, hbw, hcell⟩
    · rw [hss] at hlt; exact absurd hlt (Nat.not_lt_zero _)
    subst ha
    have g0 := (hb.cell (p := ⟨b, off + k * 4, none⟩) hbw).trans (hcell k hlt).1
    have g1 := (hb.cell (p := ⟨b, off + k * 4 + 1, none⟩) hbw).trans (hcell k hlt).2.1
    have g2 := (hb.cell (p := ⟨b, off + k * 4 + 2, none⟩) hbw).trans (hcell k hlt).2.2.1
    have g3 := (hb.cell (p := ⟨b, off + k * 4 + 3, none⟩) hbw).trans (hcell k hlt).2.2.2
    obtain ⟨q0, q1, q2, q3⟩ := hrest.out k (Nat.le_refl _) hlt
    generalize hx : is.getD k l4z = x at *
    have HX : Hid (is.getD k l4z = x) := hx
    clear hx hcell
    go_wp2_with fail
    refine (c31 x wr).mono ?_
    rintro e w1 ⟨rfl, hb1⟩
    have hB1 : Below w.heap.size w w1 := hb.trans (hb1.mono hb.size)
    have p0 := (hb1.cell (p := ⟨w.heap.size, k * 4, none⟩) (by simp; omega)).trans q0
    have p1 := (hb1.cell (p := ⟨w.heap.size, k * 4 + 1, none⟩) (by simp; omega)).trans q1
    have p2 := (hb1.cell (p := ⟨w.heap.size, k * 4 + 2, none⟩) (by simp; omega)).trans q2
    have p3 := (hb1.cell (p := ⟨w.heap.size, k * 4 + 3, none⟩) (by simp; omega)).trans q3
    have f0 := (hb1.frozen (p := ⟨w.heap.size, k * 4, none⟩) (by simp; omega)).trans (hfz _)
    have f1 := (hb1.frozen (p := ⟨w.heap.size, k * 4 + 1, none⟩) (by simp; omega)).trans (hfz _)
    have f2 := (hb1.frozen (p := ⟨w.heap.size, k * 4 + 2, none⟩) (by simp; omega)).trans (hfz _)
    have f3 := (hb1.frozen (p := ⟨w.heap.size, k * 4 + 3, none⟩) (by simp; omega)).trans (hfz _)
    have HO : Hid (∀ j, w1.cell? ⟨w.heap.size, j, none⟩ = wr.cell? ⟨w.heap.size, j, none⟩) := fun j => hb1.cell (by simp; omega)
    have hoz : w.heap.size + 1 ≤ w1.heap.size := Nat.le_trans hz hb1.size
    have HFZ : Hid (∀ j, w1.frozen? ⟨w.heap.size, j, none⟩ = false) := fun j => (hb1.frozen (p := ⟨w.heap.size, j, none⟩) (by simp; omega)).trans (hfz j)
    go_wp2
    go_roundw
    case rel =>
     refine ⟨k + 1, by omega, by go_num, (((hB1.setCell (by simp) _).setCell (by simp) _).setCell (by simp) _).setCell (by simp) _, by simpa using hoz, fun j => by rw [← HFZ.out j]; simp, fun j hj => ?_, fun j h1 h2 => ?_⟩
     · by_cases e : j = k
       · subst e
         rw [HX.out]
         exact set4_at w1 w.heap.size (j * 4) _ _ _ _ _ _ _ _ p0 p1 p2 p3
       · have hd := hdone.out j (by omega)
         rw [set4_other _ _ _ _ _ _ _ _ (by omega) (by omega) (by omega) (by omega), set4_other _ _ _ _ _ _ _ _ (by omega) (by omega) (by omega) (by omega), set4_other _ _ _ _ _ _ _ _ (by omega) (by omega) (by omega) (by omega), set4_other _ _ _ _ _ _ _ _ (by omega) (by omega) (by omega) (by omega), HO.out, HO.out, HO.out, HO.out]
         exact hd
     · have hd := hrest.out j (by omega) h2
       rw [set4_other _ _ _ _ _ _ _ _ (by omega) (by omega) (by omega) (by omega), set4_other _ _ _ _ _ _ _ _ (by omega) (by omega) (by omega) (by omega), set4_other _ _ _ _ _ _ _ _ (by omega) (by omega) (by omega) (by omega), set4_other _ _ _ _ _ _ _ _ (by omega) (by omega) (by omega) (by omega), HO.out, HO.out, HO.out, HO.out]
       exact hd
    case measure => simp [intOf]; omega
  · have hdone' : Hid (LksAt wr (some ⟨w.heap.size, 0, none⟩) is) := .inr ⟨w.heap.size, 0, rfl, by omega, fun i hi => by simp only [Nat.zero_add]; exact hdone.out i (by omega)⟩
    go_wp2
    go_ret
    exact ⟨⟨rfl, hdone'.out⟩, hb⟩
end Go.Proofs.YtkhlekmicpmpkaaGreatDoor
namespace Go.Proofs.YtkhlekmicpmpkaaGreatDoor
open Go.RowKit
set_option maxRecDepth 100000
set_option maxHeartbeats 1000000 in
theorem c5 (x : M3) (l : Int) (w : World) (hs : x.le 9223372036854775807) (h0 : 0 ≤ l) (h1 : l ≤ 1048576) :
 Calls Tryz.prog 5 #[.agg #[.string x.nm, .string x.tl, .string x.ar], .int .i64 l] w fun e w' => (∃ r : Int, e = .returned (.int .i64 r) ∧ (0 ≤ r → x.le 1048576 ∧ r ≤ 1048576)) ∧ Below w.heap.size w w' := by
 obtain ⟨s1, s2, s3⟩ := hs
 have HL : Hid (∀ r : Int, (0 ≤ r → ((x.nm.size : Int) ≤ l ∧ (x.tl.size : Int) ≤ l ∧ (x.ar.size : Int) ≤ l ∧ r ≤ l)) → (0 ≤ r → x.le 1048576 ∧ r ≤ 1048576)) := fun r h g => by
  have := h g
  exact ⟨⟨by omega, by omega, by omega⟩, by omega⟩
 by_cases h' : l < x.nm.size
 · go_enter Tryz.func5, Tryz.ntmps5
   go_wp2
   go_ret
   exact ⟨⟨-1, rfl, HL.out _ fun h => by omega⟩, (Below.refl _ _).alloc (Nat.le_refl _) _⟩
 · by_cases h'' : l < x.nm.size + x.tl.size
   · go_enter Tryz.func5, Tryz.ntmps5
     go_wp2
     go_ret
     exact ⟨⟨-1, rfl, HL.out _ fun h => by omega⟩, (Below.refl _ _).alloc (Nat.le_refl _) _⟩
   · by_cases h3 : l < x.nm.size + x.tl.size + x.ar.size
     · go_enter Tryz.func5, Tryz.ntmps5
       go_wp2
       go_ret
       exact ⟨⟨-1, rfl, HL.out _ fun h => by omega⟩, (Below.refl _ _).alloc (Nat.le_refl _) _⟩
     · go_enter Tryz.func5, Tryz.ntmps5
       go_wp2
       go_ret
       exact ⟨⟨_, rfl, HL.out _ fun h => by omega⟩, (Below.refl _ _).alloc (Nat.le_refl _) _⟩
set_option maxHeartbeats 400000 in
theorem c10 (x : M3) (w : World) :
 Calls Tryz.prog 10 #[.agg #[.string x.nm, .string x.tl, .string x.ar]] w fun e w' => e = .returned (.agg #[.string x.nm, .string x.tl, .string x.ar]) ∧ Below w.heap.size w w' := by
 go_enter Tryz.func10, Tryz.ntmps10
 go_wp2
 refine bodyPost_ret (v := .agg #[.string x.nm, .string x.tl, .string x.ar]) (by simp [results, Tryz.results10, go_sem]) rfl ⟨rfl, ?_⟩
 exact (((Below.refl _ _).alloc (Nat.le_refl _) _).alloc (by simp) _).alloc (by simp; omega) _
structure D8 where
 nm : ByteArray
 made : Bool
 km : M3
 ls : List L4
 cd : Int
 tx : ByteArray
def D8.le (x : D8) (B : Nat) : Prop := x.nm.size ≤ B ∧ x.km.le B ∧ (x.ls.length ≤ B ∧ ∀ i, (x.ls.getD i l4z).le B) ∧ x.tx.size ≤ B
def DeedAt (w : World) (b o : Nat) (x : D8) : Prop := ∃ ai ci, (w.cell? ⟨b, o, none⟩ = some (.string x.nm) ∧ w.cell? ⟨b, o + 1, none⟩ = some (.bool x.made) ∧ w.cell? ⟨b, o + 2, none⟩ = some (.string x.km.nm) ∧ w.cell? ⟨b, o + 3, none⟩ = some (.string x.km.tl) ∧ w.cell? ⟨b, o + 4, none⟩ = some (.string x.km.ar) ∧ w.cell? ⟨b, o + 5, none⟩ = some (.slice ai x.ls.length ci) ∧ w.cell? ⟨b, o + 6, none⟩ = some (.int .i64 x.cd) ∧ w.cell? ⟨b, o + 7, none⟩ = some (.string x.tx)) ∧ LksAt w ai x.ls
theorem DeedAt.below {w w' : World} {b o : Nat} {x : D8} (h : DeedAt w b o x) (hlt : b < w.heap.size) (hb : Below w.heap.size w w') : DeedAt w' b o x := by
 obtain ⟨ai, ci, hc, hg⟩ := h
 refine ⟨ai, ci, ?_, lks_below hg hb⟩
 rw [hb.cell (by exact hlt), hb.cell (by exact hlt), hb.cell (by exact hlt), hb.cell (by exact hlt), hb.cell (by exact hlt), hb.cell (by exact hlt), hb.cell (by exact hlt), hb.cell (by exact hlt)]
 exact hc
end Go.Proofs.YtkhlekmicpmpkaaGreatDoor
namespace Go.Proofs.YtkhlekmicpmpkaaGreatDoor
open Go.RowKit Go.Maps
set_option maxRecDepth 100000
set_option linter.unusedVariables false
set_option linter.unusedSimpArgs false
theorem recsS_below {w w' : World} {a : Option Addr} {is : List R3} (h : RecsAtS w a is) (hb : Below w.heap.size w w') : RecsAtS w' a is := by
 rcases h with h | ⟨b, off, h1, h2, h3⟩
 · exact .inl h
 · refine .inr ⟨b, off, h1, Nat.lt_of_lt_of_le h2 hb.size, fun i hi => ?_⟩
   obtain ⟨ad, ci, g0, g1, g2, g3⟩ := h3 i hi
   exact ⟨ad, ci, (hb.cell (p := ⟨b, off + i * 3, none⟩) h2).trans g0, (hb.cell (p := ⟨b, off + i * 3 + 1, none⟩) h2).trans g1, (hb.cell (p := ⟨b, off + i * 3 + 2, none⟩) h2).trans g2, gls_below g3 hb⟩
theorem stOwn_keep {W W' : World} {base : Nat} {ts : List ByteArray} {rs : List R3} {tv rv : Value} (h : StOwn W base ts rs tv rv) (hk : ∀ q t, OfT W q t → t = 9 ∨ t = 67 ∨ t = 92 → W'.heap[q]? = W.heap[q]?) : StOwn W' base ts rs tv rv := by
 obtain ⟨h1, vs, h2⟩ := h
 exact ⟨own_keep' h1 (fun q hq => hk q 9 (own_ofT h1 hq) (.inl rfl)), vs, h2.keep (fun q t hT ht _ => hk q t hT (.inr ht))⟩
theorem stOwn_below {W W' : World} {base : Nat} {ts : List ByteArray} {rs : List R3} {tv rv : Value} (h : StOwn W base ts rs tv rv) (hb : Below W.heap.size W W') : StOwn W' base ts rs tv rv :=
 stOwn_keep h (fun q t hT _ => hb.block q (ofT_lt hT))
theorem stOwn_low {W : World} {base base' : Nat} {ts : List ByteArray} {rs : List R3} {tv rv : Value} (h : StOwn W base ts rs tv rv) (hb : base' ≤ base) : StOwn W base' ts rs tv rv := by
 obtain ⟨h1, vs, h⟩ := h
 exact ⟨own_low h1 hb, vs, h.len, own_low h.row hb, fun i hi => by
  obtain ⟨a3, c3, e, h3⟩ := h.gl i hi
  exact ⟨a3, c3, e, own_low h3 hb⟩, h.apart⟩
end Go.Proofs.YtkhlekmicpmpkaaGreatDoor
