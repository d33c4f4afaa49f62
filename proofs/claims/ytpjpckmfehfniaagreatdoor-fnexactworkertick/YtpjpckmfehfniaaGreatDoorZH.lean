import Derived.Test.YtpjpckmfehfniaaGreatDoorZB
namespace Go.Proofs.YtpjpckmfehfniaaGreatDoor.M
open Go.RowKit
def LkG (w : World) (a : Option Addr) (is : List L4) : Prop := LksAt w a is ∧ ∃ g, a = some ⟨g, 0, none⟩ ∧ Open4 w g is.length
theorem lkg_of {w : World} {g : Nat} {is : List L4} (h : LksAt w (some ⟨g, 0, none⟩) is) (hg : g < w.heap.size) (hf : ∀ j, w.frozen? ⟨g, j, none⟩ = false) : LkG w (some ⟨g, 0, none⟩) is := by
 refine ⟨h, g, rfl, hg, fun j hj => ?_, hf⟩
 have hlt : j < (lkC is).length := by rw [lkC_len]; exact hj
 have k := lk_src h w (Below.refl _ _) j _ (List.getElem?_eq_getElem hlt)
 have ea : (⟨g, 0, none⟩ : Addr).add j = ⟨g, j, none⟩ := by unfold Addr.add; split <;> simp_all
 rw [ea] at k
 exact ⟨_, k⟩
theorem lkg_below {w w' : World} {a : Option Addr} {is : List L4} (h : LkG w a is) (hb : Below w.heap.size w w') : LkG w' a is :=
 ⟨lks_below h.1 hb, h.2.imp fun _ k => ⟨k.1, k.2.below hb⟩⟩
theorem open4_any {w : World} {b n : Nat} (h : Open4 w b n) (p : Addr) (v : Value) : Open4 (w.setCell p v) b n := by
 refine ⟨by simpa using h.1, fun i hi => ?_, fun i => by have := h.2.2 i; simpa using this⟩
 obtain ⟨x, hx⟩ := h.2.1 i hi
 by_cases e : p = ⟨b, i, none⟩
 · subst e; exact ⟨v, World.cell?_setCell_same _ _ _ hx⟩
 · exact ⟨x, by rw [World.cell?_setCell_other _ _ _ _ e]; exact hx⟩
theorem lkg_set {w : World} {p : Addr} {v : Value} {a : Option Addr} {is : List L4} (h : LkG w a is) (hp : ∀ b off, a = some ⟨b, off, none⟩ → is ≠ [] → p.block ≠ b) : LkG (w.setCell p v) a is :=
 ⟨lks_set h.1 hp, h.2.imp fun _ k => ⟨k.1, open4_any k.2 _ _⟩⟩
theorem lkg_fill {G B : Nat} {is : List L4} (hne : B ≠ G) (vs : List Value) : ∀ {u : World} (j : Nat), LkG u (some ⟨G, 0, none⟩) is → LkG (fill u B j vs) (some ⟨G, 0, none⟩) is := by
 induction vs with
 | nil => intro u j h; exact h
 | cons v vs ih => intro u j h; exact ih (j + 1) (lkg_set h (fun b off h _ => by injection h with h; injection h with h _; show B ≠ b; omega))
set_option maxHeartbeats 1000000 in
theorem c10g (a : Option Addr) (cap : Nat) (is : List L4) (w : World) (hl : is.length ≤ 1048576) (hat : LksAt w a is) :
 Calls Tryz.prog 10 #[.slice a is.length cap] w fun e w' => (e = .returned (.slice (some ⟨w.heap.size, 0, none⟩) is.length is.length) ∧ LkG w' (some ⟨w.heap.size, 0, none⟩) is) ∧ Below w.heap.size w w' := by
 obtain ⟨b, off, hc⟩ := lks_some hat
 have HC : Hid (is = [] ∨ (a = some ⟨b, off, none⟩ ∧ b < w.heap.size ∧ ∀ i, i < is.length → w.cell? ⟨b, off + i * 4, none⟩ = some (.bool (is.getD i l4z).has) ∧ w.cell? ⟨b, off + i * 4 + 1, none⟩ = some (.string (is.getD i l4z).nm) ∧ w.cell? ⟨b, off + i * 4 + 2, none⟩ = some (.int .i64 (is.getD i l4z).cd) ∧ w.cell? ⟨b, off + i * 4 + 3, none⟩ = some (.string (is.getD i l4z).tx))) := hc
 clear hc hat
 obtain ⟨i0, hi, hz0, hz1, hz2⟩ := info_parts info76
 have hmk : ∀ u : World, (Instr.makeSlice 34 (.int .i64 (is.length : Int)) (.int .i64 (is.length : Int))).run Tryz.prog u =
  .ok (.slice (some ⟨u.heap.size, 0, none⟩) is.length is.length) (u.alloc (.cells (madeCells #[.bool false, .string ⟨#[]⟩, .int .i64 0, .string ⟨#[]⟩] (is.length * 4)) 76)) := fun u => by
  have h := run_make (P := Tryz.prog) u 34 76 i0 (.agg #[.bool false, .string ⟨#[]⟩, .int .i64 0, .string ⟨#[]⟩]) Tryz.underlying34 hi hz0 .i64 .i64 (is.length : Int) (is.length : Int) (by omega) (Int.le_refl _) (by rw [hz2]; omega) (by omega)
  simpa [hz1, Value.cells] using h
 go_enter Tryz.func10, Tryz.ntmps10
 go_wp2_with fail
 go_loopw [4] (fun i wr => ∃ (k : Nat), k ≤ is.length ∧ i = .int .i64 k ∧ Below w.heap.size w wr ∧ w.heap.size + 1 ≤ wr.heap.size ∧ (∀ j, wr.frozen? ⟨w.heap.size, j, none⟩ = false) ∧ Hid (∀ j, j < k → wr.cell? ⟨w.heap.size, j * 4, none⟩ = some (.bool (is.getD j l4z).has) ∧ wr.cell? ⟨w.heap.size, j * 4 + 1, none⟩ = some (.string (is.getD j l4z).nm) ∧ wr.cell? ⟨w.heap.size, j * 4 + 2, none⟩ = some (.int .i64 (is.getD j l4z).cd) ∧ wr.cell? ⟨w.heap.size, j * 4 + 3, none⟩ = some (.string (is.getD j l4z).tx)) ∧ Hid (∀ j, k ≤ j → j < is.length → wr.cell? ⟨w.heap.size, j * 4, none⟩ = some (.bool false) ∧ wr.cell? ⟨w.heap.size, j * 4 + 1, none⟩ = some (.string ⟨#[]⟩) ∧ wr.cell? ⟨w.heap.size, j * 4 + 2, none⟩ = some (.int .i64 0) ∧ wr.cell? ⟨w.heap.size, j * 4 + 3, none⟩ = some (.string ⟨#[]⟩))) (fun i _ => is.length - (intOf i).toNat)
 case atStart =>
  refine ⟨0, Nat.zero_le _, rfl, (Below.refl _ _).alloc (Nat.le_refl _) _, by simp, fun j => by simp, fun j h => absurd h (Nat.not_lt_zero _), fun j _ h => ?_⟩
  have e0 := madeL is.length (j * 4) (by omega)
  have e1 := madeL is.length (j * 4 + 1) (by omega)
  have e2 := madeL is.length (j * 4 + 2) (by omega)
  have e3 := madeL is.length (j * 4 + 3) (by omega)
  rw [show j * 4 % 4 = 0 by omega] at e0
  rw [show (j * 4 + 1) % 4 = 1 by omega] at e1
  rw [show (j * 4 + 2) % 4 = 2 by omega] at e2
  rw [show (j * 4 + 3) % 4 = 3 by omega] at e3
  simp [e0, e1, e2, e3]
 case round =>
  obtain ⟨k, hk, rfl, hb, hz, hfz, hdone, hrest⟩ := hrel
  by_cases hlt : k < is.length
  · rcases HC.out with hss | ⟨ha, hbw, hcell⟩
    · rw [hss] at hlt; exact absurd hlt (Nat.not_lt_zero _)
    subst ha
    have g0 := (hb.cell (p := ⟨b, off + k * 4, none⟩) hbw).trans (hcell k hlt).1
    have g1 := (hb.cell (p := ⟨b, off + k * 4 + 1, none⟩) hbw).trans (hcell k hlt).2.1
    have g2 := (hb.cell (p := ⟨b, off + k * 4 + 2, none⟩) hbw).trans (hcell k hlt).2.2.1
    have g3 := (hb.cell (p := ⟨b, off + k * 4 + 3, none⟩) hbw).trans (hcell k hlt).2.2.2
    obtain ⟨q0, q1, q2, q3⟩ := hrest.out k (Nat.le_refl _) hlt
    generalize hx : is.getD k l4z = x at *
    have HX : Hid (is.getD k l4z = x) := hx
    clear hx hcell
    go_wp2_with fail
    refine (c37 x wr).mono ?_
    rintro e w1 ⟨rfl, hb1⟩
    have hB1 : Below w.heap.size w w1 := hb.trans (hb1.mono hb.size)
    have p0 := (hb1.cell (p := ⟨w.heap.size, k * 4, none⟩) (by simp; omega)).trans q0
    have p1 := (hb1.cell (p := ⟨w.heap.size, k * 4 + 1, none⟩) (by simp; omega)).trans q1
    have p2 := (hb1.cell (p := ⟨w.heap.size, k * 4 + 2, none⟩) (by simp; omega)).trans q2
    have p3 := (hb1.cell (p := ⟨w.heap.size, k * 4 + 3, none⟩) (by simp; omega)).trans q3
    have f0 := (hb1.frozen (p := ⟨w.heap.size, k * 4, none⟩) (by simp; omega)).trans (hfz _)
    have f1 := (hb1.frozen (p := ⟨w.heap.size, k * 4 + 1, none⟩) (by simp; omega)).trans (hfz _)
    have f2 := (hb1.frozen (p := ⟨w.heap.size, k * 4 + 2, none⟩) (by simp; omega)).trans (hfz _)
    have f3 := (hb1.frozen (p := ⟨w.heap.size, k * 4 + 3, none⟩) (by simp; omega)).trans (hfz _)
    have HO : Hid (∀ j, w1.cell? ⟨w.heap.size, j, none⟩ = wr.cell? ⟨w.heap.size, j, none⟩) := fun j => hb1.cell (by simp; omega)
    have hoz : w.heap.size + 1 ≤ w1.heap.size := Nat.le_trans hz hb1.size
    have HFZ : Hid (∀ j, w1.frozen? ⟨w.heap.size, j, none⟩ = false) := fun j => (hb1.frozen (p := ⟨w.heap.size, j, none⟩) (by simp; omega)).trans (hfz j)
    go_wp2
    go_roundw
    case rel =>
     refine ⟨k + 1, by omega, by go_num, (((hB1.setCell (by simp) _).setCell (by simp) _).setCell (by simp) _).setCell (by simp) _, by simpa using hoz, fun j => by rw [← HFZ.out j]; simp, fun j hj => ?_, fun j h1 h2 => ?_⟩
     · by_cases e : j = k
       · subst e
         rw [HX.out]
         exact set4_at w1 w.heap.size (j * 4) _ _ _ _ _ _ _ _ p0 p1 p2 p3
       · have hd := hdone.out j (by omega)
         rw [set4_other _ _ _ _ _ _ _ _ (by omega) (by omega) (by omega) (by omega), set4_other _ _ _ _ _ _ _ _ (by omega) (by omega) (by omega) (by omega), set4_other _ _ _ _ _ _ _ _ (by omega) (by omega) (by omega) (by omega), set4_other _ _ _ _ _ _ _ _ (by omega) (by omega) (by omega) (by omega), HO.out, HO.out, HO.out, HO.out]
         exact hd
     · have hd := hrest.out j (by omega) h2
       rw [set4_other _ _ _ _ _ _ _ _ (by omega) (by omega) (by omega) (by omega), set4_other _ _ _ _ _ _ _ _ (by omega) (by omega) (by omega) (by omega), set4_other _ _ _ _ _ _ _ _ (by omega) (by omega) (by omega) (by omega), set4_other _ _ _ _ _ _ _ _ (by omega) (by omega) (by omega) (by omega), HO.out, HO.out, HO.out, HO.out]
       exact hd
    case measure => simp [intOf]; omega
  · have hdone' : Hid (LksAt wr (some ⟨w.heap.size, 0, none⟩) is) := .inr ⟨w.heap.size, 0, rfl, by omega, fun i hi => by simp only [Nat.zero_add]; exact hdone.out i (by omega)⟩
    go_wp2
    go_ret
    exact ⟨⟨rfl, lkg_of hdone'.out (by omega) hfz⟩, hb⟩
set_option maxHeartbeats 8000000 in
theorem c46g (x : G16) (ai : Option Addr) (ci : Nat) (w : World) (hl : x.ls.length ≤ 1048576) (hat : LksAt w ai x.ls) :
 Calls Tryz.prog 46 #[.agg #[.int .i64 x.kd, .int .i64 x.to, .int .i64 x.fr, .int .i64 x.ep, .int .i64 x.ed, .string x.km.nm, .string x.km.tl, .string x.km.ar, .slice ai x.ls.length ci, .int .i64 x.ct, .bool x.tn.over, .int .i64 x.tn.cd, .string x.tn.tx, .bool x.tn.has, .string x.tn.nm, .int .i64 x.tn.st]] w fun e w' => (∃ G, w.heap.size + 3 ≤ G ∧ e = .returned (.agg #[.int .i64 x.kd, .int .i64 x.to, .int .i64 x.fr, .int .i64 x.ep, .int .i64 x.ed, .string x.km.nm, .string x.km.tl, .string x.km.ar, .slice (some ⟨G, 0, none⟩) x.ls.length x.ls.length, .int .i64 x.ct, .bool x.tn.over, .int .i64 x.tn.cd, .string x.tn.tx, .bool x.tn.has, .string x.tn.nm, .int .i64 x.tn.st]) ∧ LkG w' (some ⟨G, 0, none⟩) x.ls) ∧ Below w.heap.size w w' := by
 have hB0 : Below w.heap.size w (((w.alloc (.cells #[.int .i64 x.kd, .int .i64 x.to, .int .i64 x.fr, .int .i64 x.ep, .int .i64 x.ed, .string x.km.nm, .string x.km.tl, .string x.km.ar, .slice ai x.ls.length ci, .int .i64 x.ct, .bool x.tn.over, .int .i64 x.tn.cd, .string x.tn.tx, .bool x.tn.has, .string x.tn.nm, .int .i64 x.tn.st] 43)).alloc (.cells #[.int .i64 0, .int .i64 0, .int .i64 0, .int .i64 0, .int .i64 0, .string ⟨#[]⟩, .string ⟨#[]⟩, .string ⟨#[]⟩, .slice none 0 0, .int .i64 0, .bool false, .int .i64 0, .string ⟨#[]⟩, .bool false, .string ⟨#[]⟩, .int .i64 0] 48)).alloc (.cells #[.int .i64 x.kd, .int .i64 x.to, .int .i64 x.fr, .int .i64 x.ep, .int .i64 x.ed, .string ⟨#[]⟩, .string ⟨#[]⟩, .string ⟨#[]⟩, .slice none 0 0, .int .i64 0, .bool false, .int .i64 0, .string ⟨#[]⟩, .bool false, .string ⟨#[]⟩, .int .i64 0] 48)) := (((Below.refl _ _).alloc (Nat.le_refl _) _).alloc (by simp) _).alloc (by simp; omega) _
 have h35 := c9 x.km (((w.alloc (.cells #[.int .i64 x.kd, .int .i64 x.to, .int .i64 x.fr, .int .i64 x.ep, .int .i64 x.ed, .string x.km.nm, .string x.km.tl, .string x.km.ar, .slice ai x.ls.length ci, .int .i64 x.ct, .bool x.tn.over, .int .i64 x.tn.cd, .string x.tn.tx, .bool x.tn.has, .string x.tn.nm, .int .i64 x.tn.st] 43)).alloc (.cells #[.int .i64 0, .int .i64 0, .int .i64 0, .int .i64 0, .int .i64 0, .string ⟨#[]⟩, .string ⟨#[]⟩, .string ⟨#[]⟩, .slice none 0 0, .int .i64 0, .bool false, .int .i64 0, .string ⟨#[]⟩, .bool false, .string ⟨#[]⟩, .int .i64 0] 48)).alloc (.cells #[.int .i64 x.kd, .int .i64 x.to, .int .i64 x.fr, .int .i64 x.ep, .int .i64 x.ed, .string ⟨#[]⟩, .string ⟨#[]⟩, .string ⟨#[]⟩, .slice none 0 0, .int .i64 0, .bool false, .int .i64 0, .string ⟨#[]⟩, .bool false, .string ⟨#[]⟩, .int .i64 0] 48))
 have HA : Hid (LksAt w ai x.ls) := hat
 clear hat
 go_enter Tryz.func46, Tryz.ntmps46
 go_wp2_with fail
 refine h35.mono ?_
 rintro e w1 ⟨rfl, hb1⟩
 have hx1 : Below (w.heap.size + 3) (((w.alloc (.cells #[.int .i64 x.kd, .int .i64 x.to, .int .i64 x.fr, .int .i64 x.ep, .int .i64 x.ed, .string x.km.nm, .string x.km.tl, .string x.km.ar, .slice ai x.ls.length ci, .int .i64 x.ct, .bool x.tn.over, .int .i64 x.tn.cd, .string x.tn.tx, .bool x.tn.has, .string x.tn.nm, .int .i64 x.tn.st] 43)).alloc (.cells #[.int .i64 0, .int .i64 0, .int .i64 0, .int .i64 0, .int .i64 0, .string ⟨#[]⟩, .string ⟨#[]⟩, .string ⟨#[]⟩, .slice none 0 0, .int .i64 0, .bool false, .int .i64 0, .string ⟨#[]⟩, .bool false, .string ⟨#[]⟩, .int .i64 0] 48)).alloc (.cells #[.int .i64 x.kd, .int .i64 x.to, .int .i64 x.fr, .int .i64 x.ep, .int .i64 x.ed, .string ⟨#[]⟩, .string ⟨#[]⟩, .string ⟨#[]⟩, .slice none 0 0, .int .i64 0, .bool false, .int .i64 0, .string ⟨#[]⟩, .bool false, .string ⟨#[]⟩, .int .i64 0] 48)) w1 := by have h := hb1; simp at h; exact h
 have hB1 : Below w.heap.size w w1 := hB0.trans (hx1.mono (by omega))
 have hz1 : w.heap.size + 1 + 1 < w1.heap.size := by have := hx1.size; simp at this; omega
 have ZA : BlkAt w1 w.heap.size [.int .i64 x.kd, .int .i64 x.to, .int .i64 x.fr, .int .i64 x.ep, .int .i64 x.ed, .string x.km.nm, .string x.km.tl, .string x.km.ar, .slice ai x.ls.length ci, .int .i64 x.ct, .bool x.tn.over, .int .i64 x.tn.cd, .string x.tn.tx, .bool x.tn.has, .string x.tn.nm, .int .i64 x.tn.st] := fun j v h => (hx1.cell (p := ⟨w.heap.size, j, none⟩) (by show w.heap.size < w.heap.size + 3; omega)).trans (by simp [go_sem, h])
 have ZR : BlkAt w1 (w.heap.size + 1) [.int .i64 0, .int .i64 0, .int .i64 0, .int .i64 0, .int .i64 0, .string ⟨#[]⟩, .string ⟨#[]⟩, .string ⟨#[]⟩, .slice none 0 0, .int .i64 0, .bool false, .int .i64 0, .string ⟨#[]⟩, .bool false, .string ⟨#[]⟩, .int .i64 0] := fun j v h => (hx1.cell (p := ⟨w.heap.size + 1, j, none⟩) (by show w.heap.size + 1 < w.heap.size + 3; omega)).trans (by simp [go_sem, h])
 have ZO : BlkAt w1 (w.heap.size + 1 + 1) [.int .i64 x.kd, .int .i64 x.to, .int .i64 x.fr, .int .i64 x.ep, .int .i64 x.ed, .string ⟨#[]⟩, .string ⟨#[]⟩, .string ⟨#[]⟩, .slice none 0 0, .int .i64 0, .bool false, .int .i64 0, .string ⟨#[]⟩, .bool false, .string ⟨#[]⟩, .int .i64 0] := fun j v h => (hx1.cell (p := ⟨w.heap.size + 1 + 1, j, none⟩) (by show w.heap.size + 1 + 1 < w.heap.size + 3; omega)).trans (by simp [go_sem, h])
 have fR : OpnAt w1 (w.heap.size + 1) := fun j => (hx1.frozen (p := ⟨w.heap.size + 1, j, none⟩) (by show w.heap.size + 1 < w.heap.size + 3; omega)).trans (by simp [go_sem])
 have fO : OpnAt w1 (w.heap.size + 1 + 1) := fun j => (hx1.frozen (p := ⟨w.heap.size + 1 + 1, j, none⟩) (by show w.heap.size + 1 + 1 < w.heap.size + 3; omega)).trans (by simp [go_sem])
 clear hb1 hx1 hB0
 have hB := hB1
 have hz := hz1
 clear h35 hB1 hz1
 have a8 := ZA 8 _ rfl
 have o5 := ZO 5 _ rfl
 have o6 := ZO 6 _ rfl
 have o7 := ZO 7 _ rfl
 have gR : ∀ j, _ := fR
 have gO : ∀ j, _ := fO
 go_wp2_with fail
 clear gR gO a8 o5 o6 o7
 have ZAU : BlkAt (((w1.setCell ⟨w.heap.size + 1 + 1, 5, none⟩ (.string x.km.nm)).setCell ⟨w.heap.size + 1 + 1, 6, none⟩ (.string x.km.tl)).setCell ⟨w.heap.size + 1 + 1, 7, none⟩ (.string x.km.ar)) w.heap.size [.int .i64 x.kd, .int .i64 x.to, .int .i64 x.fr, .int .i64 x.ep, .int .i64 x.ed, .string x.km.nm, .string x.km.tl, .string x.km.ar, .slice ai x.ls.length ci, .int .i64 x.ct, .bool x.tn.over, .int .i64 x.tn.cd, .string x.tn.tx, .bool x.tn.has, .string x.tn.nm, .int .i64 x.tn.st] := (((ZA.other ⟨w.heap.size + 1 + 1, 5, none⟩ (.string x.km.nm) (by show w.heap.size + 1 + 1 ≠ w.heap.size; omega)).other ⟨w.heap.size + 1 + 1, 6, none⟩ (.string x.km.tl) (by show w.heap.size + 1 + 1 ≠ w.heap.size; omega)).other ⟨w.heap.size + 1 + 1, 7, none⟩ (.string x.km.ar) (by show w.heap.size + 1 + 1 ≠ w.heap.size; omega))
 have ZRU : BlkAt (((w1.setCell ⟨w.heap.size + 1 + 1, 5, none⟩ (.string x.km.nm)).setCell ⟨w.heap.size + 1 + 1, 6, none⟩ (.string x.km.tl)).setCell ⟨w.heap.size + 1 + 1, 7, none⟩ (.string x.km.ar)) (w.heap.size + 1) [.int .i64 0, .int .i64 0, .int .i64 0, .int .i64 0, .int .i64 0, .string ⟨#[]⟩, .string ⟨#[]⟩, .string ⟨#[]⟩, .slice none 0 0, .int .i64 0, .bool false, .int .i64 0, .string ⟨#[]⟩, .bool false, .string ⟨#[]⟩, .int .i64 0] := (((ZR.other ⟨w.heap.size + 1 + 1, 5, none⟩ (.string x.km.nm) (by show w.heap.size + 1 + 1 ≠ w.heap.size + 1; omega)).other ⟨w.heap.size + 1 + 1, 6, none⟩ (.string x.km.tl) (by show w.heap.size + 1 + 1 ≠ w.heap.size + 1; omega)).other ⟨w.heap.size + 1 + 1, 7, none⟩ (.string x.km.ar) (by show w.heap.size + 1 + 1 ≠ w.heap.size + 1; omega))
 have ZOU : BlkAt (((w1.setCell ⟨w.heap.size + 1 + 1, 5, none⟩ (.string x.km.nm)).setCell ⟨w.heap.size + 1 + 1, 6, none⟩ (.string x.km.tl)).setCell ⟨w.heap.size + 1 + 1, 7, none⟩ (.string x.km.ar)) (w.heap.size + 1 + 1) [.int .i64 x.kd, .int .i64 x.to, .int .i64 x.fr, .int .i64 x.ep, .int .i64 x.ed, .string x.km.nm, .string x.km.tl, .string x.km.ar, .slice none 0 0, .int .i64 0, .bool false, .int .i64 0, .string ⟨#[]⟩, .bool false, .string ⟨#[]⟩, .int .i64 0] := (((ZO.set 5 (.string x.km.nm) (by simp)).set 6 (.string x.km.tl) (by simp)).set 7 (.string x.km.ar) (by simp))
 have fRU : OpnAt (((w1.setCell ⟨w.heap.size + 1 + 1, 5, none⟩ (.string x.km.nm)).setCell ⟨w.heap.size + 1 + 1, 6, none⟩ (.string x.km.tl)).setCell ⟨w.heap.size + 1 + 1, 7, none⟩ (.string x.km.ar)) (w.heap.size + 1) := (((fR.set ⟨w.heap.size + 1 + 1, 5, none⟩ (.string x.km.nm)).set ⟨w.heap.size + 1 + 1, 6, none⟩ (.string x.km.tl)).set ⟨w.heap.size + 1 + 1, 7, none⟩ (.string x.km.ar))
 have fOU : OpnAt (((w1.setCell ⟨w.heap.size + 1 + 1, 5, none⟩ (.string x.km.nm)).setCell ⟨w.heap.size + 1 + 1, 6, none⟩ (.string x.km.tl)).setCell ⟨w.heap.size + 1 + 1, 7, none⟩ (.string x.km.ar)) (w.heap.size + 1 + 1) := (((fO.set ⟨w.heap.size + 1 + 1, 5, none⟩ (.string x.km.nm)).set ⟨w.heap.size + 1 + 1, 6, none⟩ (.string x.km.tl)).set ⟨w.heap.size + 1 + 1, 7, none⟩ (.string x.km.ar))
 have hBU : Below w.heap.size w (((w1.setCell ⟨w.heap.size + 1 + 1, 5, none⟩ (.string x.km.nm)).setCell ⟨w.heap.size + 1 + 1, 6, none⟩ (.string x.km.tl)).setCell ⟨w.heap.size + 1 + 1, 7, none⟩ (.string x.km.ar)) := (((hB.setCell (by show w.heap.size ≤ w.heap.size + 1 + 1; omega) _).setCell (by show w.heap.size ≤ w.heap.size + 1 + 1; omega) _).setCell (by show w.heap.size ≤ w.heap.size + 1 + 1; omega) _)
 have hzU : w.heap.size + 1 + 1 < (((w1.setCell ⟨w.heap.size + 1 + 1, 5, none⟩ (.string x.km.nm)).setCell ⟨w.heap.size + 1 + 1, 6, none⟩ (.string x.km.tl)).setCell ⟨w.heap.size + 1 + 1, 7, none⟩ (.string x.km.ar)).heap.size := by simpa using hz
 generalize (((w1.setCell ⟨w.heap.size + 1 + 1, 5, none⟩ (.string x.km.nm)).setCell ⟨w.heap.size + 1 + 1, 6, none⟩ (.string x.km.tl)).setCell ⟨w.heap.size + 1 + 1, 7, none⟩ (.string x.km.ar)) = U at *
 clear ZA ZR ZO fR fO hB hz
 refine (c10g ai ci x.ls U hl (lks_below HA.out hBU)).mono ?_
 rintro e w2 ⟨⟨rfl, hL⟩, hb2⟩
 have hB : Below w.heap.size w w2 := hBU.trans (hb2.mono hBU.size)
 have hz : w.heap.size + 1 + 1 < w2.heap.size := Nat.lt_of_lt_of_le hzU hb2.size
 have ZA := ZAU.below hb2 (by omega)
 have ZR := ZRU.below hb2 (by omega)
 have ZO := ZOU.below hb2 hzU
 have fR := fRU.below hb2 (by omega)
 have fO := fOU.below hb2 hzU
 have hG : w.heap.size + 3 ≤ U.heap.size := by omega
 generalize U.heap.size = G at *
 have HL : Hid (LkG w2 (some ⟨G, 0, none⟩) x.ls) := hL
 clear hb2 hL ZAU ZRU ZOU fRU fOU hBU hzU
 have a9 := ZA 9 _ rfl
 have a10 := ZA 10 _ rfl
 have a11 := ZA 11 _ rfl
 have a12 := ZA 12 _ rfl
 have a13 := ZA 13 _ rfl
 have a14 := ZA 14 _ rfl
 have a15 := ZA 15 _ rfl
 have o8 := ZO 8 _ rfl
 have o9 := ZO 9 _ rfl
 have gR : ∀ j, _ := fR
 have gO : ∀ j, _ := fO
 go_wp2_with fail
 clear gR gO a9 a10 a11 a12 a13 a14 a15 o8 o9
 have ZAV : BlkAt ((w2.setCell ⟨w.heap.size + 1 + 1, 8, none⟩ (.slice (some ⟨G, 0, none⟩) x.ls.length x.ls.length)).setCell ⟨w.heap.size + 1 + 1, 9, none⟩ (.int .i64 x.ct)) w.heap.size [.int .i64 x.kd, .int .i64 x.to, .int .i64 x.fr, .int .i64 x.ep, .int .i64 x.ed, .string x.km.nm, .string x.km.tl, .string x.km.ar, .slice ai x.ls.length ci, .int .i64 x.ct, .bool x.tn.over, .int .i64 x.tn.cd, .string x.tn.tx, .bool x.tn.has, .string x.tn.nm, .int .i64 x.tn.st] := ((ZA.other ⟨w.heap.size + 1 + 1, 8, none⟩ (.slice (some ⟨G, 0, none⟩) x.ls.length x.ls.length) (by show w.heap.size + 1 + 1 ≠ w.heap.size; omega)).other ⟨w.heap.size + 1 + 1, 9, none⟩ (.int .i64 x.ct) (by show w.heap.size + 1 + 1 ≠ w.heap.size; omega))
 have ZRV : BlkAt ((w2.setCell ⟨w.heap.size + 1 + 1, 8, none⟩ (.slice (some ⟨G, 0, none⟩) x.ls.length x.ls.length)).setCell ⟨w.heap.size + 1 + 1, 9, none⟩ (.int .i64 x.ct)) (w.heap.size + 1) [.int .i64 0, .int .i64 0, .int .i64 0, .int .i64 0, .int .i64 0, .string ⟨#[]⟩, .string ⟨#[]⟩, .string ⟨#[]⟩, .slice none 0 0, .int .i64 0, .bool false, .int .i64 0, .string ⟨#[]⟩, .bool false, .string ⟨#[]⟩, .int .i64 0] := ((ZR.other ⟨w.heap.size + 1 + 1, 8, none⟩ (.slice (some ⟨G, 0, none⟩) x.ls.length x.ls.length) (by show w.heap.size + 1 + 1 ≠ w.heap.size + 1; omega)).other ⟨w.heap.size + 1 + 1, 9, none⟩ (.int .i64 x.ct) (by show w.heap.size + 1 + 1 ≠ w.heap.size + 1; omega))
 have ZOV : BlkAt ((w2.setCell ⟨w.heap.size + 1 + 1, 8, none⟩ (.slice (some ⟨G, 0, none⟩) x.ls.length x.ls.length)).setCell ⟨w.heap.size + 1 + 1, 9, none⟩ (.int .i64 x.ct)) (w.heap.size + 1 + 1) [.int .i64 x.kd, .int .i64 x.to, .int .i64 x.fr, .int .i64 x.ep, .int .i64 x.ed, .string x.km.nm, .string x.km.tl, .string x.km.ar, .slice (some ⟨G, 0, none⟩) x.ls.length x.ls.length, .int .i64 x.ct, .bool false, .int .i64 0, .string ⟨#[]⟩, .bool false, .string ⟨#[]⟩, .int .i64 0] := ((ZO.set 8 (.slice (some ⟨G, 0, none⟩) x.ls.length x.ls.length) (by simp)).set 9 (.int .i64 x.ct) (by simp))
 have fRV : OpnAt ((w2.setCell ⟨w.heap.size + 1 + 1, 8, none⟩ (.slice (some ⟨G, 0, none⟩) x.ls.length x.ls.length)).setCell ⟨w.heap.size + 1 + 1, 9, none⟩ (.int .i64 x.ct)) (w.heap.size + 1) := ((fR.set ⟨w.heap.size + 1 + 1, 8, none⟩ (.slice (some ⟨G, 0, none⟩) x.ls.length x.ls.length)).set ⟨w.heap.size + 1 + 1, 9, none⟩ (.int .i64 x.ct))
 have fOV : OpnAt ((w2.setCell ⟨w.heap.size + 1 + 1, 8, none⟩ (.slice (some ⟨G, 0, none⟩) x.ls.length x.ls.length)).setCell ⟨w.heap.size + 1 + 1, 9, none⟩ (.int .i64 x.ct)) (w.heap.size + 1 + 1) := ((fO.set ⟨w.heap.size + 1 + 1, 8, none⟩ (.slice (some ⟨G, 0, none⟩) x.ls.length x.ls.length)).set ⟨w.heap.size + 1 + 1, 9, none⟩ (.int .i64 x.ct))
 have hBV : Below w.heap.size w ((w2.setCell ⟨w.heap.size + 1 + 1, 8, none⟩ (.slice (some ⟨G, 0, none⟩) x.ls.length x.ls.length)).setCell ⟨w.heap.size + 1 + 1, 9, none⟩ (.int .i64 x.ct)) := ((hB.setCell (by show w.heap.size ≤ w.heap.size + 1 + 1; omega) _).setCell (by show w.heap.size ≤ w.heap.size + 1 + 1; omega) _)
 have hzV : w.heap.size + 1 + 1 < ((w2.setCell ⟨w.heap.size + 1 + 1, 8, none⟩ (.slice (some ⟨G, 0, none⟩) x.ls.length x.ls.length)).setCell ⟨w.heap.size + 1 + 1, 9, none⟩ (.int .i64 x.ct)).heap.size := by simpa using hz
 have HLV : Hid (LkG ((w2.setCell ⟨w.heap.size + 1 + 1, 8, none⟩ (.slice (some ⟨G, 0, none⟩) x.ls.length x.ls.length)).setCell ⟨w.heap.size + 1 + 1, 9, none⟩ (.int .i64 x.ct)) (some ⟨G, 0, none⟩) x.ls) := lkg_set (lkg_set HL.out (fun b off h _ => by injection h with h; injection h with h _; show w.heap.size + 1 + 1 ≠ b; omega)) (fun b off h _ => by injection h with h; injection h with h _; show w.heap.size + 1 + 1 ≠ b; omega)
 generalize ((w2.setCell ⟨w.heap.size + 1 + 1, 8, none⟩ (.slice (some ⟨G, 0, none⟩) x.ls.length x.ls.length)).setCell ⟨w.heap.size + 1 + 1, 9, none⟩ (.int .i64 x.ct)) = V at *
 clear ZA ZR ZO fR fO hB hz
 refine (c94 x.tn V).mono ?_
 rintro e w3 ⟨rfl, hb3⟩
 have hB : Below w.heap.size w w3 := hBV.trans (hb3.mono hBV.size)
 have hz : w.heap.size + 1 + 1 < w3.heap.size := Nat.lt_of_lt_of_le hzV hb3.size
 have ZA := ZAV.below hb3 (by omega)
 have ZR := ZRV.below hb3 (by omega)
 have ZO := ZOV.below hb3 hzV
 have fR := fRV.below hb3 (by omega)
 have fO := fOV.below hb3 hzV
 have HL3 : Hid (LkG w3 (some ⟨G, 0, none⟩) x.ls) := lkg_below HLV.out hb3
 clear hb3 HL HLV ZAV ZRV ZOV fRV fOV hBV hzV
 have r0 := ZR 0 _ rfl
 have r1 := ZR 1 _ rfl
 have r2 := ZR 2 _ rfl
 have r3 := ZR 3 _ rfl
 have r4 := ZR 4 _ rfl
 have r5 := ZR 5 _ rfl
 have r6 := ZR 6 _ rfl
 have r7 := ZR 7 _ rfl
 have r8 := ZR 8 _ rfl
 have r9 := ZR 9 _ rfl
 have r10 := ZR 10 _ rfl
 have r11 := ZR 11 _ rfl
 have r12 := ZR 12 _ rfl
 have r13 := ZR 13 _ rfl
 have r14 := ZR 14 _ rfl
 have r15 := ZR 15 _ rfl
 have o0 := ZO 0 _ rfl
 have o1 := ZO 1 _ rfl
 have o2 := ZO 2 _ rfl
 have o3 := ZO 3 _ rfl
 have o4 := ZO 4 _ rfl
 have o5 := ZO 5 _ rfl
 have o6 := ZO 6 _ rfl
 have o7 := ZO 7 _ rfl
 have o8 := ZO 8 _ rfl
 have o9 := ZO 9 _ rfl
 have o10 := ZO 10 _ rfl
 have o11 := ZO 11 _ rfl
 have o12 := ZO 12 _ rfl
 have o13 := ZO 13 _ rfl
 have o14 := ZO 14 _ rfl
 have o15 := ZO 15 _ rfl
 have gR : ∀ j, _ := fR
 have gO : ∀ j, _ := fO
 have HR : Hid (BlkAt w3 (w.heap.size + 1) [.int .i64 0, .int .i64 0, .int .i64 0, .int .i64 0, .int .i64 0, .string ⟨#[]⟩, .string ⟨#[]⟩, .string ⟨#[]⟩, .slice none 0 0, .int .i64 0, .bool false, .int .i64 0, .string ⟨#[]⟩, .bool false, .string ⟨#[]⟩, .int .i64 0]) := ZR
 clear ZA ZR ZO fR fO
 go_wp2
 have F : BlkAt (fill (fill w3 (w.heap.size + 1 + 1) 10 [.bool x.tn.over, .int .i64 x.tn.cd, .string x.tn.tx, .bool x.tn.has, .string x.tn.nm, .int .i64 x.tn.st]) (w.heap.size + 1) 0 [.int .i64 x.kd, .int .i64 x.to, .int .i64 x.fr, .int .i64 x.ep, .int .i64 x.ed, .string x.km.nm, .string x.km.tl, .string x.km.ar, .slice (some ⟨G, 0, none⟩) x.ls.length x.ls.length, .int .i64 x.ct, .bool x.tn.over, .int .i64 x.tn.cd, .string x.tn.tx, .bool x.tn.has, .string x.tn.nm, .int .i64 x.tn.st]) (w.heap.size + 1) [.int .i64 x.kd, .int .i64 x.to, .int .i64 x.fr, .int .i64 x.ep, .int .i64 x.ed, .string x.km.nm, .string x.km.tl, .string x.km.ar, .slice (some ⟨G, 0, none⟩) x.ls.length x.ls.length, .int .i64 x.ct, .bool x.tn.over, .int .i64 x.tn.cd, .string x.tn.tx, .bool x.tn.has, .string x.tn.nm, .int .i64 x.tn.st] := BlkAt.fill [.int .i64 x.kd, .int .i64 x.to, .int .i64 x.fr, .int .i64 x.ep, .int .i64 x.ed, .string x.km.nm, .string x.km.tl, .string x.km.ar, .slice (some ⟨G, 0, none⟩) x.ls.length x.ls.length, .int .i64 x.ct, .bool x.tn.over, .int .i64 x.tn.cd, .string x.tn.tx, .bool x.tn.has, .string x.tn.nm, .int .i64 x.tn.st] [] [.int .i64 0, .int .i64 0, .int .i64 0, .int .i64 0, .int .i64 0, .string ⟨#[]⟩, .string ⟨#[]⟩, .string ⟨#[]⟩, .slice none 0 0, .int .i64 0, .bool false, .int .i64 0, .string ⟨#[]⟩, .bool false, .string ⟨#[]⟩, .int .i64 0] [] 0 (BlkAt.fillO (by omega) [.bool x.tn.over, .int .i64 x.tn.cd, .string x.tn.tx, .bool x.tn.has, .string x.tn.nm, .int .i64 x.tn.st] 10 HR.out) rfl rfl
 have hBF : Below w.heap.size w (fill (fill w3 (w.heap.size + 1 + 1) 10 [.bool x.tn.over, .int .i64 x.tn.cd, .string x.tn.tx, .bool x.tn.has, .string x.tn.nm, .int .i64 x.tn.st]) (w.heap.size + 1) 0 [.int .i64 x.kd, .int .i64 x.to, .int .i64 x.fr, .int .i64 x.ep, .int .i64 x.ed, .string x.km.nm, .string x.km.tl, .string x.km.ar, .slice (some ⟨G, 0, none⟩) x.ls.length x.ls.length, .int .i64 x.ct, .bool x.tn.over, .int .i64 x.tn.cd, .string x.tn.tx, .bool x.tn.has, .string x.tn.nm, .int .i64 x.tn.st]) := below_fill (by omega) _ _ (below_fill (by omega) _ _ hB)
 have HLF : Hid (LkG (fill (fill w3 (w.heap.size + 1 + 1) 10 [.bool x.tn.over, .int .i64 x.tn.cd, .string x.tn.tx, .bool x.tn.has, .string x.tn.nm, .int .i64 x.tn.st]) (w.heap.size + 1) 0 [.int .i64 x.kd, .int .i64 x.to, .int .i64 x.fr, .int .i64 x.ep, .int .i64 x.ed, .string x.km.nm, .string x.km.tl, .string x.km.ar, .slice (some ⟨G, 0, none⟩) x.ls.length x.ls.length, .int .i64 x.ct, .bool x.tn.over, .int .i64 x.tn.cd, .string x.tn.tx, .bool x.tn.has, .string x.tn.nm, .int .i64 x.tn.st]) (some ⟨G, 0, none⟩) x.ls) := lkg_fill (by omega) _ _ (lkg_fill (by omega) _ _ HL3.out)
 change bodyPost Tryz.prog Tryz.f46 _ Exit.ret _ (fill (fill w3 (w.heap.size + 1 + 1) 10 [.bool x.tn.over, .int .i64 x.tn.cd, .string x.tn.tx, .bool x.tn.has, .string x.tn.nm, .int .i64 x.tn.st]) (w.heap.size + 1) 0 [.int .i64 x.kd, .int .i64 x.to, .int .i64 x.fr, .int .i64 x.ep, .int .i64 x.ed, .string x.km.nm, .string x.km.tl, .string x.km.ar, .slice (some ⟨G, 0, none⟩) x.ls.length x.ls.length, .int .i64 x.ct, .bool x.tn.over, .int .i64 x.tn.cd, .string x.tn.tx, .bool x.tn.has, .string x.tn.nm, .int .i64 x.tn.st])
 generalize (fill (fill w3 (w.heap.size + 1 + 1) 10 [.bool x.tn.over, .int .i64 x.tn.cd, .string x.tn.tx, .bool x.tn.has, .string x.tn.nm, .int .i64 x.tn.st]) (w.heap.size + 1) 0 [.int .i64 x.kd, .int .i64 x.to, .int .i64 x.fr, .int .i64 x.ep, .int .i64 x.ed, .string x.km.nm, .string x.km.tl, .string x.km.ar, .slice (some ⟨G, 0, none⟩) x.ls.length x.ls.length, .int .i64 x.ct, .bool x.tn.over, .int .i64 x.tn.cd, .string x.tn.tx, .bool x.tn.has, .string x.tn.nm, .int .i64 x.tn.st]) = Q at *
 have f0 := F 0 _ rfl
 have f1 := F 1 _ rfl
 have f2 := F 2 _ rfl
 have f3 := F 3 _ rfl
 have f4 := F 4 _ rfl
 have f5 := F 5 _ rfl
 have f6 := F 6 _ rfl
 have f7 := F 7 _ rfl
 have f8 := F 8 _ rfl
 have f9 := F 9 _ rfl
 have f10 := F 10 _ rfl
 have f11 := F 11 _ rfl
 have f12 := F 12 _ rfl
 have f13 := F 13 _ rfl
 have f14 := F 14 _ rfl
 have f15 := F 15 _ rfl
 refine bodyPost_ret (v := .agg #[.int .i64 x.kd, .int .i64 x.to, .int .i64 x.fr, .int .i64 x.ep, .int .i64 x.ed, .string x.km.nm, .string x.km.tl, .string x.km.ar, .slice (some ⟨G, 0, none⟩) x.ls.length x.ls.length, .int .i64 x.ct, .bool x.tn.over, .int .i64 x.tn.cd, .string x.tn.tx, .bool x.tn.has, .string x.tn.nm, .int .i64 x.tn.st]) (by simp [results, Tryz.results46, go_sem, f0, f1, f2, f3, f4, f5, f6, f7, f8, f9, f10, f11, f12, f13, f14, f15]) rfl ⟨⟨G, hG, rfl, HLF.out⟩, hBF⟩
end Go.Proofs.YtpjpckmfehfniaaGreatDoor.M
