import Derived.Test.YtpjpckmfehfniaaGreatDoorZC25
namespace Go.Proofs.YtpjpckmfehfniaaGreatDoor
open Go.RowKit
def mkR (q : Int) : List Value := [.int .i64 (q), .int .i64 (q + 1), .int .i64 (q + 1 + 1), .int .i64 (q + 1 + 1 + 1), .int .i64 (q + 1 + 1 + 1 + 1), .string (M.ofL (109 :: M.dec (q + 1 + 1 + 1 + 1 + 1))), .string (M.ofL (109 :: M.dec (q + 1 + 1 + 1 + 1 + 1 + 1))), .string (M.ofL (109 :: M.dec (q + 1 + 1 + 1 + 1 + 1 + 1 + 1))), .slice none 0 0, .int .i64 (q + 1 + 1 + 1 + 1 + 1 + 1 + 1 + 1), .bool ((q + 1 + 1 + 1 + 1 + 1 + 1 + 1 + 1 + 1) % 3 == 0), .int .i64 (q + 1 + 1 + 1 + 1 + 1 + 1 + 1 + 1 + 1 + 1), .string (M.ofL (109 :: M.dec (q + 1 + 1 + 1 + 1 + 1 + 1 + 1 + 1 + 1 + 1 + 1))), .bool ((q + 1 + 1 + 1 + 1 + 1 + 1 + 1 + 1 + 1 + 1 + 1 + 1) % 3 == 0), .string (M.ofL (109 :: M.dec (q + 1 + 1 + 1 + 1 + 1 + 1 + 1 + 1 + 1 + 1 + 1 + 1 + 1))), .int .i64 (q + 1 + 1 + 1 + 1 + 1 + 1 + 1 + 1 + 1 + 1 + 1 + 1 + 1 + 1)]
def mkc (K : Int) (i : Nat) : Option Value := (mkR (K + 15 * ((i / 16 : Nat) : Int)))[i % 16]?
theorem mkc_at (K : Int) (k j : Nat) (hj : j < 16) : mkc K (k * 16 + j) = (mkR (K + 15 * (k : Int)))[j]? := by
 unfold mkc
 rw [show (k * 16 + j) / 16 = k by omega, show (k * 16 + j) % 16 = j by omega]
structure MkI (K : Int) (w0 w : World) (b n p : Nat) : Prop where
 but : M.But b w0 w
 lt : b < w.heap.size
 opn : ∀ i, i < n * 16 → ∃ v, w.cell? ⟨b, i, none⟩ = some v
 frz : ∀ i, w.frozen? ⟨b, i, none⟩ = false
 lk : ∀ i, i < n → w.cell? ⟨b, i * 16 + 8, none⟩ = some (.slice none 0 0)
 done : ∀ i, i < p → w.cell? ⟨b, i, none⟩ = mkc K i
theorem MkI.below {K : Int} {w0 w w' : World} {b n p : Nat} (h : MkI K w0 w b n p) (hb : Below w.heap.size w w') : MkI K w0 w' b n p :=
 ⟨h.but.trans (M.But.of_below hb), Nat.lt_of_lt_of_le h.lt hb.size, fun i hi => by rw [hb.cell (by exact h.lt)]; exact h.opn i hi, fun i => by rw [hb.frozen (by exact h.lt)]; exact h.frz i, fun i hi => by rw [hb.cell (by exact h.lt)]; exact h.lk i hi, fun i hi => by rw [hb.cell (by exact h.lt)]; exact h.done i hi⟩
theorem MkI.set {K : Int} {w0 w : World} {b n k j : Nat} {v : Value} (h : MkI K w0 w b n (k * 16 + j)) (hk : k < n) (hj : j < 16) (h8 : j ≠ 8) (hv : (mkR (K + 15 * (k : Int)))[j]? = some v) : MkI K w0 (w.setCell ⟨b, k * 16 + j, none⟩ v) b n (k * 16 + (j + 1)) := by
 obtain ⟨u, hu⟩ := h.opn (k * 16 + j) (by omega)
 refine ⟨h.but.setCell _ _, by simpa using h.lt, fun i hi => ?_, fun i => by have := h.frz i; simpa using this, fun i hi => ?_, fun i hi => ?_⟩
 · by_cases e : i = k * 16 + j
   · subst e; exact ⟨v, World.cell?_setCell_same _ _ _ hu⟩
   · rw [World.cell?_setCell_other _ _ _ _ (M.adr_ne (Ne.symm e))]; exact h.opn i hi
 · rw [World.cell?_setCell_other _ _ _ _ (M.adr_ne (by omega))]; exact h.lk i hi
 · by_cases e : i = k * 16 + j
   · subst e; rw [World.cell?_setCell_same _ _ _ hu, mkc_at K k j hj, hv]
   · rw [World.cell?_setCell_other _ _ _ _ (M.adr_ne (Ne.symm e))]; exact h.done i (by omega)
theorem MkI.skip {K : Int} {w0 w : World} {b n k : Nat} (h : MkI K w0 w b n (k * 16 + 8)) (hk : k < n) : MkI K w0 w b n (k * 16 + 9) := by
 refine ⟨h.but, h.lt, h.opn, h.frz, h.lk, fun i hi => ?_⟩
 by_cases e : i = k * 16 + 8
 · subst e; rw [h.lk k hk, mkc_at K k 8 (by omega)]; rfl
 · exact h.done i (by omega)
theorem MkI.next {K : Int} {w0 w : World} {b n k : Nat} (h : MkI K w0 w b n (k * 16 + 16)) : MkI K w0 w b n ((k + 1) * 16 + 0) := by
 rw [show (k + 1) * 16 + 0 = k * 16 + 16 by omega]; exact h
set_option maxHeartbeats 8000000 in
set_option maxRecDepth 100000 in
theorem c21 (K : Int) (a : Option Addr) (b n cap : Nat) (w : World) (hK1 : 1 ≤ K) (hK2 : K ≤ 5000000) (ha : n = 0 ∨ a = some ⟨b, 0, none⟩) (hn : n ≤ 100) (ho : MkI K w w b n 0) :
 Calls Tryz.prog 21 #[.slice a n cap, .int .i64 K] w fun e w' => e = .returned (.int .i64 (K + 15 * (n : Int))) ∧ MkI K w w' b n (n * 16) := by
 have HO : Hid (MkI K w w b n (0 * 16 + 0)) := ho
 clear ho
 go_enter Tryz.func21, Tryz.ntmps21
 go_wp2_with fail
 go_loopw [1, 5] (fun q i wr => ∃ (k : Nat), k ≤ n ∧ i = .int .i64 k ∧ q = .int .i64 (K + 15 * (k : Int)) ∧ Hid (MkI K w wr b n (k * 16 + 0))) (fun _ i _ => n - (intOf i).toNat)
 case atStart => exact ⟨0, Nat.zero_le _, rfl, by simp, HO⟩
 case round =>
  obtain ⟨k, hk, rfl, rfl, HI⟩ := hrel
  by_cases hlt : k < n
  · rcases ha with ha | rfl
    · omega
    obtain ⟨q, hq0⟩ : ∃ q : Int, q = K + 15 * (k : Int) := ⟨_, rfl⟩
    have hq1 : 1 ≤ q := by omega
    have hq2 : q ≤ 6000000 := by omega
    have hq : Hid (q = K + 15 * (k : Int)) := hq0
    rw [← hq0]
    clear hq0 HO
    obtain ⟨v0, g0⟩ := HI.out.opn (k * 16 + 0) (by omega)
    have f0 := HI.out.frz (k * 16 + 0)
    simp only [Nat.add_zero] at g0 f0
    have I0 : Hid (MkI K w (wr.setCell ⟨b, k * 16, none⟩ (.int .i64 (q))) b n (k * 16 + 1)) := HI.out.set (j := 0) hlt (by omega) (by omega) (by rw [← hq.out]; rfl)
    obtain ⟨v1, g1⟩ := I0.out.opn (k * 16 + 1) (by omega)
    have f1 := I0.out.frz (k * 16 + 1)
    have I1 : Hid (MkI K w ((wr.setCell ⟨b, k * 16, none⟩ (.int .i64 (q))).setCell ⟨b, k * 16 + 1, none⟩ (.int .i64 (q + 1))) b n (k * 16 + 2)) := I0.out.set (j := 1) hlt (by omega) (by omega) (by rw [← hq.out]; rfl)
    obtain ⟨v2, g2⟩ := I1.out.opn (k * 16 + 2) (by omega)
    have f2 := I1.out.frz (k * 16 + 2)
    have I2 : Hid (MkI K w (((wr.setCell ⟨b, k * 16, none⟩ (.int .i64 (q))).setCell ⟨b, k * 16 + 1, none⟩ (.int .i64 (q + 1))).setCell ⟨b, k * 16 + 2, none⟩ (.int .i64 (q + 1 + 1))) b n (k * 16 + 3)) := I1.out.set (j := 2) hlt (by omega) (by omega) (by rw [← hq.out]; rfl)
    obtain ⟨v3, g3⟩ := I2.out.opn (k * 16 + 3) (by omega)
    have f3 := I2.out.frz (k * 16 + 3)
    have I3 : Hid (MkI K w ((((wr.setCell ⟨b, k * 16, none⟩ (.int .i64 (q))).setCell ⟨b, k * 16 + 1, none⟩ (.int .i64 (q + 1))).setCell ⟨b, k * 16 + 2, none⟩ (.int .i64 (q + 1 + 1))).setCell ⟨b, k * 16 + 3, none⟩ (.int .i64 (q + 1 + 1 + 1))) b n (k * 16 + 4)) := I2.out.set (j := 3) hlt (by omega) (by omega) (by rw [← hq.out]; rfl)
    obtain ⟨v4, g4⟩ := I3.out.opn (k * 16 + 4) (by omega)
    have f4 := I3.out.frz (k * 16 + 4)
    have I4 : Hid (MkI K w (((((wr.setCell ⟨b, k * 16, none⟩ (.int .i64 (q))).setCell ⟨b, k * 16 + 1, none⟩ (.int .i64 (q + 1))).setCell ⟨b, k * 16 + 2, none⟩ (.int .i64 (q + 1 + 1))).setCell ⟨b, k * 16 + 3, none⟩ (.int .i64 (q + 1 + 1 + 1))).setCell ⟨b, k * 16 + 4, none⟩ (.int .i64 (q + 1 + 1 + 1 + 1))) b n (k * 16 + 5)) := I3.out.set (j := 4) hlt (by omega) (by omega) (by rw [← hq.out]; rfl)
    go_wp2_with fail
    refine (M.c52 _ _ (by omega) (by omega)).mono ?_
    rintro e w1 ⟨rfl, hb1⟩
    have J1 := I4.out.below hb1
    clear hb1  g0 f0 I0 g1 f1 I1 g2 f2 I2 g3 f3 I3 g4 f4 I4
    have HJ1 : Hid (MkI K w w1 b n (k * 16 + 5)) := J1
    clear J1
    obtain ⟨v5, g5⟩ := HJ1.out.opn (k * 16 + 5) (by omega)
    have f5 := HJ1.out.frz (k * 16 + 5)
    have I5 : Hid (MkI K w (w1.setCell ⟨b, k * 16 + 5, none⟩ (.string (M.ofL (109 :: M.dec (q + 1 + 1 + 1 + 1 + 1))))) b n (k * 16 + 6)) := HJ1.out.set (j := 5) hlt (by omega) (by omega) (by rw [← hq.out]; rfl)
    go_wp2_with fail
    refine (M.c52 _ _ (by omega) (by omega)).mono ?_
    rintro e w2 ⟨rfl, hb2⟩
    have J2 := I5.out.below hb2
    clear hb2  g5 f5 I5
    have HJ2 : Hid (MkI K w w2 b n (k * 16 + 6)) := J2
    clear J2
    obtain ⟨v6, g6⟩ := HJ2.out.opn (k * 16 + 6) (by omega)
    have f6 := HJ2.out.frz (k * 16 + 6)
    have I6 : Hid (MkI K w (w2.setCell ⟨b, k * 16 + 6, none⟩ (.string (M.ofL (109 :: M.dec (q + 1 + 1 + 1 + 1 + 1 + 1))))) b n (k * 16 + 7)) := HJ2.out.set (j := 6) hlt (by omega) (by omega) (by rw [← hq.out]; rfl)
    go_wp2_with fail
    refine (M.c52 _ _ (by omega) (by omega)).mono ?_
    rintro e w3 ⟨rfl, hb3⟩
    have J3 := I6.out.below hb3
    clear hb3  g6 f6 I6
    have HJ3 : Hid (MkI K w w3 b n (k * 16 + 7)) := J3
    clear J3
    obtain ⟨v7, g7⟩ := HJ3.out.opn (k * 16 + 7) (by omega)
    have f7 := HJ3.out.frz (k * 16 + 7)
    have I7 : Hid (MkI K w (w3.setCell ⟨b, k * 16 + 7, none⟩ (.string (M.ofL (109 :: M.dec (q + 1 + 1 + 1 + 1 + 1 + 1 + 1))))) b n (k * 16 + 8)) := HJ3.out.set (j := 7) hlt (by omega) (by omega) (by rw [← hq.out]; rfl)
    have lk8 := I7.out.lk k hlt
    go_wp2_with fail
    refine (M.c53z _ _ _ _).mono ?_
    rintro e w4 ⟨rfl, hb4⟩
    have J4 := (I7.out.skip hlt).below hb4
    clear hb4  g7 f7 I7
    clear lk8
    have HJ4 : Hid (MkI K w w4 b n (k * 16 + 9)) := J4
    clear J4
    obtain ⟨v9, g9⟩ := HJ4.out.opn (k * 16 + 9) (by omega)
    have f9 := HJ4.out.frz (k * 16 + 9)
    have I9 : Hid (MkI K w (w4.setCell ⟨b, k * 16 + 9, none⟩ (.int .i64 (q + 1 + 1 + 1 + 1 + 1 + 1 + 1 + 1))) b n (k * 16 + 10)) := HJ4.out.set (j := 9) hlt (by omega) (by omega) (by rw [← hq.out]; rfl)
    obtain ⟨v10, g10⟩ := I9.out.opn (k * 16 + 10) (by omega)
    have f10 := I9.out.frz (k * 16 + 10)
    have I10 : Hid (MkI K w ((w4.setCell ⟨b, k * 16 + 9, none⟩ (.int .i64 (q + 1 + 1 + 1 + 1 + 1 + 1 + 1 + 1))).setCell ⟨b, k * 16 + 10, none⟩ (.bool ((q + 1 + 1 + 1 + 1 + 1 + 1 + 1 + 1 + 1) % 3 == 0))) b n (k * 16 + 11)) := I9.out.set (j := 10) hlt (by omega) (by omega) (by rw [← hq.out]; rfl)
    obtain ⟨v11, g11⟩ := I10.out.opn (k * 16 + 11) (by omega)
    have f11 := I10.out.frz (k * 16 + 11)
    have I11 : Hid (MkI K w (((w4.setCell ⟨b, k * 16 + 9, none⟩ (.int .i64 (q + 1 + 1 + 1 + 1 + 1 + 1 + 1 + 1))).setCell ⟨b, k * 16 + 10, none⟩ (.bool ((q + 1 + 1 + 1 + 1 + 1 + 1 + 1 + 1 + 1) % 3 == 0))).setCell ⟨b, k * 16 + 11, none⟩ (.int .i64 (q + 1 + 1 + 1 + 1 + 1 + 1 + 1 + 1 + 1 + 1))) b n (k * 16 + 12)) := I10.out.set (j := 11) hlt (by omega) (by omega) (by rw [← hq.out]; rfl)
    go_wp2_with fail
    refine (M.c52 _ _ (by omega) (by omega)).mono ?_
    rintro e w5 ⟨rfl, hb5⟩
    have J5 := I11.out.below hb5
    clear hb5  g9 f9 I9 g10 f10 I10 g11 f11 I11
    have HJ5 : Hid (MkI K w w5 b n (k * 16 + 12)) := J5
    clear J5
    obtain ⟨v12, g12⟩ := HJ5.out.opn (k * 16 + 12) (by omega)
    have f12 := HJ5.out.frz (k * 16 + 12)
    have I12 : Hid (MkI K w (w5.setCell ⟨b, k * 16 + 12, none⟩ (.string (M.ofL (109 :: M.dec (q + 1 + 1 + 1 + 1 + 1 + 1 + 1 + 1 + 1 + 1 + 1))))) b n (k * 16 + 13)) := HJ5.out.set (j := 12) hlt (by omega) (by omega) (by rw [← hq.out]; rfl)
    obtain ⟨v13, g13⟩ := I12.out.opn (k * 16 + 13) (by omega)
    have f13 := I12.out.frz (k * 16 + 13)
    have I13 : Hid (MkI K w ((w5.setCell ⟨b, k * 16 + 12, none⟩ (.string (M.ofL (109 :: M.dec (q + 1 + 1 + 1 + 1 + 1 + 1 + 1 + 1 + 1 + 1 + 1))))).setCell ⟨b, k * 16 + 13, none⟩ (.bool ((q + 1 + 1 + 1 + 1 + 1 + 1 + 1 + 1 + 1 + 1 + 1 + 1) % 3 == 0))) b n (k * 16 + 14)) := I12.out.set (j := 13) hlt (by omega) (by omega) (by rw [← hq.out]; rfl)
    go_wp2_with fail
    refine (M.c52 _ _ (by omega) (by omega)).mono ?_
    rintro e w6 ⟨rfl, hb6⟩
    have J6 := I13.out.below hb6
    clear hb6  g12 f12 I12 g13 f13 I13
    have HJ6 : Hid (MkI K w w6 b n (k * 16 + 14)) := J6
    clear J6
    obtain ⟨v14, g14⟩ := HJ6.out.opn (k * 16 + 14) (by omega)
    have f14 := HJ6.out.frz (k * 16 + 14)
    have I14 : Hid (MkI K w (w6.setCell ⟨b, k * 16 + 14, none⟩ (.string (M.ofL (109 :: M.dec (q + 1 + 1 + 1 + 1 + 1 + 1 + 1 + 1 + 1 + 1 + 1 + 1 + 1))))) b n (k * 16 + 15)) := HJ6.out.set (j := 14) hlt (by omega) (by omega) (by rw [← hq.out]; rfl)
    obtain ⟨v15, g15⟩ := I14.out.opn (k * 16 + 15) (by omega)
    have f15 := I14.out.frz (k * 16 + 15)
    have I15 : Hid (MkI K w ((w6.setCell ⟨b, k * 16 + 14, none⟩ (.string (M.ofL (109 :: M.dec (q + 1 + 1 + 1 + 1 + 1 + 1 + 1 + 1 + 1 + 1 + 1 + 1 + 1))))).setCell ⟨b, k * 16 + 15, none⟩ (.int .i64 (q + 1 + 1 + 1 + 1 + 1 + 1 + 1 + 1 + 1 + 1 + 1 + 1 + 1 + 1))) b n (k * 16 + 16)) := I14.out.set (j := 15) hlt (by omega) (by omega) (by rw [← hq.out]; rfl)
    go_wp2
    go_roundw
    case rel => exact ⟨k + 1, by omega, by go_num, by rw [hq.out]; go_num, I15.out.next⟩
    case measure => simp [intOf]; omega
  · obtain rfl : k = n := by omega
    go_wp2
    go_ret
    exact ⟨rfl, HI.out⟩
end Go.Proofs.YtpjpckmfehfniaaGreatDoor
