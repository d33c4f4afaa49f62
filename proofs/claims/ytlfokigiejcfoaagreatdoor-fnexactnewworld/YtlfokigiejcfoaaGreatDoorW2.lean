import Derived.Test.YtlfokigiejcfoaaGreatDoorW0
import Derived.Test.YtlfokigiejcfoaaGreatDoorW1
namespace Go.Proofs.YtlfokigiejcfoaaGreatDoor
open Go.RowKit
/-- A worker marked from q on. -/
def mkR (q : Int) : List Value := [.int .i64 (q), .bool ((q + 1) % 3 == 0), .bool ((q + 1 + 1) % 3 == 0), .int .i64 (q + 1 + 1 + 1), .int .i64 (q + 1 + 1 + 1 + 1), .int .i64 (q + 1 + 1 + 1 + 1 + 1), .int .i64 (q + 1 + 1 + 1 + 1 + 1 + 1), .int .i64 (q + 1 + 1 + 1 + 1 + 1 + 1 + 1), .string (ofL (109 :: dec (q + 1 + 1 + 1 + 1 + 1 + 1 + 1 + 1))), .string (ofL (109 :: dec (q + 1 + 1 + 1 + 1 + 1 + 1 + 1 + 1 + 1))), .string (ofL (109 :: dec (q + 1 + 1 + 1 + 1 + 1 + 1 + 1 + 1 + 1 + 1))), .slice none 0 0, .int .i64 (q + 1 + 1 + 1 + 1 + 1 + 1 + 1 + 1 + 1 + 1 + 1), .bool ((q + 1 + 1 + 1 + 1 + 1 + 1 + 1 + 1 + 1 + 1 + 1 + 1) % 3 == 0), .int .i64 (q + 1 + 1 + 1 + 1 + 1 + 1 + 1 + 1 + 1 + 1 + 1 + 1 + 1), .string (ofL (109 :: dec (q + 1 + 1 + 1 + 1 + 1 + 1 + 1 + 1 + 1 + 1 + 1 + 1 + 1 + 1))), .bool ((q + 1 + 1 + 1 + 1 + 1 + 1 + 1 + 1 + 1 + 1 + 1 + 1 + 1 + 1 + 1) % 3 == 0), .string (ofL (109 :: dec (q + 1 + 1 + 1 + 1 + 1 + 1 + 1 + 1 + 1 + 1 + 1 + 1 + 1 + 1 + 1 + 1))), .int .i64 (q + 1 + 1 + 1 + 1 + 1 + 1 + 1 + 1 + 1 + 1 + 1 + 1 + 1 + 1 + 1 + 1 + 1)]
theorem mkR_len (q : Int) : (mkR q).length = 19 := rfl
/-- The cells of workers marked from K on. -/
def mkc (K : Int) (i : Nat) : Option Value := (mkR (K + 18 * ((i / 19 : Nat) : Int)))[i % 19]?
theorem mkc_at (K : Int) (k j : Nat) (hj : j < 19) : mkc K (k * 19 + j) = (mkR (K + 18 * (k : Int)))[j]? := by
  unfold mkc
  rw [show (k * 19 + j) / 19 = k by omega, show (k * 19 + j) % 19 = j by omega]
/-- While workers are marked: p cells are done. -/
structure MkI (K : Int) (w0 w : World) (b n p : Nat) : Prop where
  but : But b w0 w
  lt : b < w.heap.size
  opn : ∀ i, i < n * 19 → ∃ v, w.cell? ⟨b, i, none⟩ = some v
  frz : ∀ i, w.frozen? ⟨b, i, none⟩ = false
  lk : ∀ i, i < n → w.cell? ⟨b, i * 19 + 11, none⟩ = some (.slice none 0 0)
  done : ∀ i, i < p → w.cell? ⟨b, i, none⟩ = mkc K i
theorem MkI.below {K : Int} {w0 w w' : World} {b n p : Nat} (h : MkI K w0 w b n p) (hb : Below w.heap.size w w') : MkI K w0 w' b n p :=
  ⟨h.but.trans (But.of_below hb), Nat.lt_of_lt_of_le h.lt hb.size, fun i hi => by rw [hb.cell (by exact h.lt)]; exact h.opn i hi, fun i => by rw [hb.frozen (by exact h.lt)]; exact h.frz i, fun i hi => by rw [hb.cell (by exact h.lt)]; exact h.lk i hi, fun i hi => by rw [hb.cell (by exact h.lt)]; exact h.done i hi⟩
theorem MkI.set {K : Int} {w0 w : World} {b n k j : Nat} {v : Value} (h : MkI K w0 w b n (k * 19 + j)) (hk : k < n) (hj : j < 19) (h8 : j ≠ 11) (hv : (mkR (K + 18 * (k : Int)))[j]? = some v) : MkI K w0 (w.setCell ⟨b, k * 19 + j, none⟩ v) b n (k * 19 + (j + 1)) := by
  obtain ⟨u, hu⟩ := h.opn (k * 19 + j) (by omega)
  refine ⟨h.but.setCell _ _, by simpa using h.lt, fun i hi => ?_, fun i => by have := h.frz i; simpa using this, fun i hi => ?_, fun i hi => ?_⟩
  · by_cases e : i = k * 19 + j
    · subst e; exact ⟨v, World.cell?_setCell_same _ _ _ hu⟩
    · rw [World.cell?_setCell_other _ _ _ _ (adr_ne (Ne.symm e))]; exact h.opn i hi
  · rw [World.cell?_setCell_other _ _ _ _ (adr_ne (by omega))]; exact h.lk i hi
  · by_cases e : i = k * 19 + j
    · subst e; rw [World.cell?_setCell_same _ _ _ hu, mkc_at K k j hj, hv]
    · rw [World.cell?_setCell_other _ _ _ _ (adr_ne (Ne.symm e))]; exact h.done i (by omega)
theorem MkI.skip {K : Int} {w0 w : World} {b n k : Nat} (h : MkI K w0 w b n (k * 19 + 11)) (hk : k < n) : MkI K w0 w b n (k * 19 + 12) := by
  refine ⟨h.but, h.lt, h.opn, h.frz, h.lk, fun i hi => ?_⟩
  by_cases e : i = k * 19 + 11
  · subst e; rw [h.lk k hk, mkc_at K k 11 (by omega)]; rfl
  · exact h.done i (by omega)
theorem MkI.next {K : Int} {w0 w : World} {b n k : Nat} (h : MkI K w0 w b n (k * 19 + 19)) : MkI K w0 w b n ((k + 1) * 19 + 0) := by
  rw [show (k + 1) * 19 + 0 = k * 19 + 19 by omega]; exact h
set_option maxHeartbeats 8000000 in
set_option maxRecDepth 100000 in
theorem c17 (K : Int) (a : Option Addr) (b n cap : Nat) (w : World) (hK1 : 1 ≤ K) (hK2 : K ≤ 5000000) (ha : n = 0 ∨ a = some ⟨b, 0, none⟩) (hn : n ≤ 100) (ho : MkI K w w b n 0) :
    Calls Tryz.prog 17 #[.slice a n cap, .int .i64 K] w fun e w' => e = .returned (.int .i64 (K + 18 * (n : Int))) ∧ MkI K w w' b n (n * 19) := by
  have HO : Hid (MkI K w w b n (0 * 19 + 0)) := ho
  clear ho
  go_enter Tryz.func17, Tryz.ntmps17
  go_wp2_with fail
  go_loopw [1, 5] (fun q i wr => ∃ (k : Nat), k ≤ n ∧ i = .int .i64 k ∧ q = .int .i64 (K + 18 * (k : Int)) ∧ Hid (MkI K w wr b n (k * 19 + 0))) (fun _ i _ => n - (intOf i).toNat)
  case atStart => exact ⟨0, Nat.zero_le _, rfl, by simp, HO⟩
  case round =>
    obtain ⟨k, hk, rfl, rfl, HI⟩ := hrel
    by_cases hlt : k < n
    · rcases ha with ha | rfl
      · omega
      obtain ⟨q, hq0⟩ : ∃ q : Int, q = K + 18 * (k : Int) := ⟨_, rfl⟩
      have hq1 : 1 ≤ q := by omega
      have hq2 : q ≤ 6000000 := by omega
      have hq : Hid (q = K + 18 * (k : Int)) := hq0
      rw [← hq0]
      clear hq0 HO
      obtain ⟨v0, g0⟩ := HI.out.opn (k * 19 + 0) (by omega)
      have f0 := HI.out.frz (k * 19 + 0)
      simp only [Nat.add_zero] at g0 f0
      have I0 : Hid (MkI K w (wr.setCell ⟨b, k * 19, none⟩ (.int .i64 (q))) b n (k * 19 + 1)) := HI.out.set (j := 0) hlt (by omega) (by omega) (by rw [← hq.out]; rfl)
      obtain ⟨v1, g1⟩ := I0.out.opn (k * 19 + 1) (by omega)
      have f1 := I0.out.frz (k * 19 + 1)
      have I1 : Hid (MkI K w ((wr.setCell ⟨b, k * 19, none⟩ (.int .i64 (q))).setCell ⟨b, k * 19 + 1, none⟩ (.bool ((q + 1) % 3 == 0))) b n (k * 19 + 2)) := I0.out.set (j := 1) hlt (by omega) (by omega) (by rw [← hq.out]; rfl)
      obtain ⟨v2, g2⟩ := I1.out.opn (k * 19 + 2) (by omega)
      have f2 := I1.out.frz (k * 19 + 2)
      have I2 : Hid (MkI K w (((wr.setCell ⟨b, k * 19, none⟩ (.int .i64 (q))).setCell ⟨b, k * 19 + 1, none⟩ (.bool ((q + 1) % 3 == 0))).setCell ⟨b, k * 19 + 2, none⟩ (.bool ((q + 1 + 1) % 3 == 0))) b n (k * 19 + 3)) := I1.out.set (j := 2) hlt (by omega) (by omega) (by rw [← hq.out]; rfl)
      obtain ⟨v3, g3⟩ := I2.out.opn (k * 19 + 3) (by omega)
      have f3 := I2.out.frz (k * 19 + 3)
      have I3 : Hid (MkI K w ((((wr.setCell ⟨b, k * 19, none⟩ (.int .i64 (q))).setCell ⟨b, k * 19 + 1, none⟩ (.bool ((q + 1) % 3 == 0))).setCell ⟨b, k * 19 + 2, none⟩ (.bool ((q + 1 + 1) % 3 == 0))).setCell ⟨b, k * 19 + 3, none⟩ (.int .i64 (q + 1 + 1 + 1))) b n (k * 19 + 4)) := I2.out.set (j := 3) hlt (by omega) (by omega) (by rw [← hq.out]; rfl)
      obtain ⟨v4, g4⟩ := I3.out.opn (k * 19 + 4) (by omega)
      have f4 := I3.out.frz (k * 19 + 4)
      have I4 : Hid (MkI K w (((((wr.setCell ⟨b, k * 19, none⟩ (.int .i64 (q))).setCell ⟨b, k * 19 + 1, none⟩ (.bool ((q + 1) % 3 == 0))).setCell ⟨b, k * 19 + 2, none⟩ (.bool ((q + 1 + 1) % 3 == 0))).setCell ⟨b, k * 19 + 3, none⟩ (.int .i64 (q + 1 + 1 + 1))).setCell ⟨b, k * 19 + 4, none⟩ (.int .i64 (q + 1 + 1 + 1 + 1))) b n (k * 19 + 5)) := I3.out.set (j := 4) hlt (by omega) (by omega) (by rw [← hq.out]; rfl)
      obtain ⟨v5, g5⟩ := I4.out.opn (k * 19 + 5) (by omega)
      have f5 := I4.out.frz (k * 19 + 5)
      have I5 : Hid (MkI K w ((((((wr.setCell ⟨b, k * 19, none⟩ (.int .i64 (q))).setCell ⟨b, k * 19 + 1, none⟩ (.bool ((q + 1) % 3 == 0))).setCell ⟨b, k * 19 + 2, none⟩ (.bool ((q + 1 + 1) % 3 == 0))).setCell ⟨b, k * 19 + 3, none⟩ (.int .i64 (q + 1 + 1 + 1))).setCell ⟨b, k * 19 + 4, none⟩ (.int .i64 (q + 1 + 1 + 1 + 1))).setCell ⟨b, k * 19 + 5, none⟩ (.int .i64 (q + 1 + 1 + 1 + 1 + 1))) b n (k * 19 + 6)) := I4.out.set (j := 5) hlt (by omega) (by omega) (by rw [← hq.out]; rfl)
      obtain ⟨v6, g6⟩ := I5.out.opn (k * 19 + 6) (by omega)
      have f6 := I5.out.frz (k * 19 + 6)
      have I6 : Hid (MkI K w (((((((wr.setCell ⟨b, k * 19, none⟩ (.int .i64 (q))).setCell ⟨b, k * 19 + 1, none⟩ (.bool ((q + 1) % 3 == 0))).setCell ⟨b, k * 19 + 2, none⟩ (.bool ((q + 1 + 1) % 3 == 0))).setCell ⟨b, k * 19 + 3, none⟩ (.int .i64 (q + 1 + 1 + 1))).setCell ⟨b, k * 19 + 4, none⟩ (.int .i64 (q + 1 + 1 + 1 + 1))).setCell ⟨b, k * 19 + 5, none⟩ (.int .i64 (q + 1 + 1 + 1 + 1 + 1))).setCell ⟨b, k * 19 + 6, none⟩ (.int .i64 (q + 1 + 1 + 1 + 1 + 1 + 1))) b n (k * 19 + 7)) := I5.out.set (j := 6) hlt (by omega) (by omega) (by rw [← hq.out]; rfl)
      obtain ⟨v7, g7⟩ := I6.out.opn (k * 19 + 7) (by omega)
      have f7 := I6.out.frz (k * 19 + 7)
      have I7 : Hid (MkI K w ((((((((wr.setCell ⟨b, k * 19, none⟩ (.int .i64 (q))).setCell ⟨b, k * 19 + 1, none⟩ (.bool ((q + 1) % 3 == 0))).setCell ⟨b, k * 19 + 2, none⟩ (.bool ((q + 1 + 1) % 3 == 0))).setCell ⟨b, k * 19 + 3, none⟩ (.int .i64 (q + 1 + 1 + 1))).setCell ⟨b, k * 19 + 4, none⟩ (.int .i64 (q + 1 + 1 + 1 + 1))).setCell ⟨b, k * 19 + 5, none⟩ (.int .i64 (q + 1 + 1 + 1 + 1 + 1))).setCell ⟨b, k * 19 + 6, none⟩ (.int .i64 (q + 1 + 1 + 1 + 1 + 1 + 1))).setCell ⟨b, k * 19 + 7, none⟩ (.int .i64 (q + 1 + 1 + 1 + 1 + 1 + 1 + 1))) b n (k * 19 + 8)) := I6.out.set (j := 7) hlt (by omega) (by omega) (by rw [← hq.out]; rfl)
      go_wp2_with fail
      refine (c49k _ _ (by omega) (by omega)).mono ?_
      rintro e w1 ⟨rfl, hb1⟩
      have J1 := I7.out.below hb1
      clear hb1  g0 f0 I0 g1 f1 I1 g2 f2 I2 g3 f3 I3 g4 f4 I4 g5 f5 I5 g6 f6 I6 g7 f7 I7
      have HJ1 : Hid (MkI K w w1 b n (k * 19 + 8)) := J1
      clear J1
      obtain ⟨v8, g8⟩ := HJ1.out.opn (k * 19 + 8) (by omega)
      have f8 := HJ1.out.frz (k * 19 + 8)
      have I8 : Hid (MkI K w (w1.setCell ⟨b, k * 19 + 8, none⟩ (.string (ofL (109 :: dec (q + 1 + 1 + 1 + 1 + 1 + 1 + 1 + 1))))) b n (k * 19 + 9)) := HJ1.out.set (j := 8) hlt (by omega) (by omega) (by rw [← hq.out]; rfl)
      go_wp2_with fail
      refine (c49k _ _ (by omega) (by omega)).mono ?_
      rintro e w2 ⟨rfl, hb2⟩
      have J2 := I8.out.below hb2
      clear hb2  g8 f8 I8
      have HJ2 : Hid (MkI K w w2 b n (k * 19 + 9)) := J2
      clear J2
      obtain ⟨v9, g9⟩ := HJ2.out.opn (k * 19 + 9) (by omega)
      have f9 := HJ2.out.frz (k * 19 + 9)
      have I9 : Hid (MkI K w (w2.setCell ⟨b, k * 19 + 9, none⟩ (.string (ofL (109 :: dec (q + 1 + 1 + 1 + 1 + 1 + 1 + 1 + 1 + 1))))) b n (k * 19 + 10)) := HJ2.out.set (j := 9) hlt (by omega) (by omega) (by rw [← hq.out]; rfl)
      go_wp2_with fail
      refine (c49k _ _ (by omega) (by omega)).mono ?_
      rintro e w3 ⟨rfl, hb3⟩
      have J3 := I9.out.below hb3
      clear hb3  g9 f9 I9
      have HJ3 : Hid (MkI K w w3 b n (k * 19 + 10)) := J3
      clear J3
      obtain ⟨v10, g10⟩ := HJ3.out.opn (k * 19 + 10) (by omega)
      have f10 := HJ3.out.frz (k * 19 + 10)
      have I10 : Hid (MkI K w (w3.setCell ⟨b, k * 19 + 10, none⟩ (.string (ofL (109 :: dec (q + 1 + 1 + 1 + 1 + 1 + 1 + 1 + 1 + 1 + 1))))) b n (k * 19 + 11)) := HJ3.out.set (j := 10) hlt (by omega) (by omega) (by rw [← hq.out]; rfl)
      have lk8 := I10.out.lk k hlt
      go_wp2_with fail
      refine (c50z _ _ _ _).mono ?_
      rintro e w4 ⟨rfl, hb4⟩
      have J4 := (I10.out.skip hlt).below hb4
      clear hb4  g10 f10 I10
      clear lk8
      have HJ4 : Hid (MkI K w w4 b n (k * 19 + 12)) := J4
      clear J4
      obtain ⟨v12, g12⟩ := HJ4.out.opn (k * 19 + 12) (by omega)
      have f12 := HJ4.out.frz (k * 19 + 12)
      have I12 : Hid (MkI K w (w4.setCell ⟨b, k * 19 + 12, none⟩ (.int .i64 (q + 1 + 1 + 1 + 1 + 1 + 1 + 1 + 1 + 1 + 1 + 1))) b n (k * 19 + 13)) := HJ4.out.set (j := 12) hlt (by omega) (by omega) (by rw [← hq.out]; rfl)
      obtain ⟨v13, g13⟩ := I12.out.opn (k * 19 + 13) (by omega)
      have f13 := I12.out.frz (k * 19 + 13)
      have I13 : Hid (MkI K w ((w4.setCell ⟨b, k * 19 + 12, none⟩ (.int .i64 (q + 1 + 1 + 1 + 1 + 1 + 1 + 1 + 1 + 1 + 1 + 1))).setCell ⟨b, k * 19 + 13, none⟩ (.bool ((q + 1 + 1 + 1 + 1 + 1 + 1 + 1 + 1 + 1 + 1 + 1 + 1) % 3 == 0))) b n (k * 19 + 14)) := I12.out.set (j := 13) hlt (by omega) (by omega) (by rw [← hq.out]; rfl)
      obtain ⟨v14, g14⟩ := I13.out.opn (k * 19 + 14) (by omega)
      have f14 := I13.out.frz (k * 19 + 14)
      have I14 : Hid (MkI K w (((w4.setCell ⟨b, k * 19 + 12, none⟩ (.int .i64 (q + 1 + 1 + 1 + 1 + 1 + 1 + 1 + 1 + 1 + 1 + 1))).setCell ⟨b, k * 19 + 13, none⟩ (.bool ((q + 1 + 1 + 1 + 1 + 1 + 1 + 1 + 1 + 1 + 1 + 1 + 1) % 3 == 0))).setCell ⟨b, k * 19 + 14, none⟩ (.int .i64 (q + 1 + 1 + 1 + 1 + 1 + 1 + 1 + 1 + 1 + 1 + 1 + 1 + 1))) b n (k * 19 + 15)) := I13.out.set (j := 14) hlt (by omega) (by omega) (by rw [← hq.out]; rfl)
      go_wp2_with fail
      refine (c49k _ _ (by omega) (by omega)).mono ?_
      rintro e w5 ⟨rfl, hb5⟩
      have J5 := I14.out.below hb5
      clear hb5  g12 f12 I12 g13 f13 I13 g14 f14 I14
      have HJ5 : Hid (MkI K w w5 b n (k * 19 + 15)) := J5
      clear J5
      obtain ⟨v15, g15⟩ := HJ5.out.opn (k * 19 + 15) (by omega)
      have f15 := HJ5.out.frz (k * 19 + 15)
      have I15 : Hid (MkI K w (w5.setCell ⟨b, k * 19 + 15, none⟩ (.string (ofL (109 :: dec (q + 1 + 1 + 1 + 1 + 1 + 1 + 1 + 1 + 1 + 1 + 1 + 1 + 1 + 1))))) b n (k * 19 + 16)) := HJ5.out.set (j := 15) hlt (by omega) (by omega) (by rw [← hq.out]; rfl)
      obtain ⟨v16, g16⟩ := I15.out.opn (k * 19 + 16) (by omega)
      have f16 := I15.out.frz (k * 19 + 16)
      have I16 : Hid (MkI K w ((w5.setCell ⟨b, k * 19 + 15, none⟩ (.string (ofL (109 :: dec (q + 1 + 1 + 1 + 1 + 1 + 1 + 1 + 1 + 1 + 1 + 1 + 1 + 1 + 1))))).setCell ⟨b, k * 19 + 16, none⟩ (.bool ((q + 1 + 1 + 1 + 1 + 1 + 1 + 1 + 1 + 1 + 1 + 1 + 1 + 1 + 1 + 1) % 3 == 0))) b n (k * 19 + 17)) := I15.out.set (j := 16) hlt (by omega) (by omega) (by rw [← hq.out]; rfl)
      go_wp2_with fail
      refine (c49k _ _ (by omega) (by omega)).mono ?_
      rintro e w6 ⟨rfl, hb6⟩
      have J6 := I16.out.below hb6
      clear hb6  g15 f15 I15 g16 f16 I16
      have HJ6 : Hid (MkI K w w6 b n (k * 19 + 17)) := J6
      clear J6
      obtain ⟨v17, g17⟩ := HJ6.out.opn (k * 19 + 17) (by omega)
      have f17 := HJ6.out.frz (k * 19 + 17)
      have I17 : Hid (MkI K w (w6.setCell ⟨b, k * 19 + 17, none⟩ (.string (ofL (109 :: dec (q + 1 + 1 + 1 + 1 + 1 + 1 + 1 + 1 + 1 + 1 + 1 + 1 + 1 + 1 + 1 + 1))))) b n (k * 19 + 18)) := HJ6.out.set (j := 17) hlt (by omega) (by omega) (by rw [← hq.out]; rfl)
      obtain ⟨v18, g18⟩ := I17.out.opn (k * 19 + 18) (by omega)
      have f18 := I17.out.frz (k * 19 + 18)
      have I18 : Hid (MkI K w ((w6.setCell ⟨b, k * 19 + 17, none⟩ (.string (ofL (109 :: dec (q + 1 + 1 + 1 + 1 + 1 + 1 + 1 + 1 + 1 + 1 + 1 + 1 + 1 + 1 + 1 + 1))))).setCell ⟨b, k * 19 + 18, none⟩ (.int .i64 (q + 1 + 1 + 1 + 1 + 1 + 1 + 1 + 1 + 1 + 1 + 1 + 1 + 1 + 1 + 1 + 1 + 1))) b n (k * 19 + 19)) := I17.out.set (j := 18) hlt (by omega) (by omega) (by rw [← hq.out]; rfl)
      go_wp2
      go_roundw
      case rel => exact ⟨k + 1, by omega, by go_num, by rw [hq.out]; go_num, I18.out.next⟩
      case measure => simp [intOf]; omega
    · obtain rfl : k = n := by omega
      go_wp2
      go_ret
      exact ⟨rfl, HI.out⟩
end Go.Proofs.YtlfokigiejcfoaaGreatDoor
