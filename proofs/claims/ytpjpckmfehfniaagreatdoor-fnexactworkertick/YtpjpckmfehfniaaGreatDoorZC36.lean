import Derived.Test.YtpjpckmfehfniaaGreatDoorZC30
import Derived.Test.YtpjpckmfehfniaaGreatDoorYA
import Derived.Test.YtpjpckmfehfniaaGreatDoorZC32
import Derived.Test.YtpjpckmfehfniaaGreatDoorZC22
import Derived.Test.YtpjpckmfehfniaaGreatDoorZH
namespace Go.Proofs.YtpjpckmfehfniaaGreatDoor.M
open Go.RowKit
theorem sm59_none (x : G16) : Sm59 x.to x.fr x.ep x.ed x.km.nm x.km.tl x.km.ar x.ct x.tn.over x.tn.cd x.tn.tx x.tn.has x.tn.nm x.tn.st 0 0 0 0 ⟨#[]⟩ ⟨#[]⟩ ⟨#[]⟩ 0 false 0 ⟨#[]⟩ false ⟨#[]⟩ 0 x.ls.length 0 ↔ (x.to = 0 ∧ x.fr = 0 ∧ x.ep = 0 ∧ x.ed = 0 ∧ x.km.nm = ⟨#[]⟩ ∧ x.km.tl = ⟨#[]⟩ ∧ x.km.ar = ⟨#[]⟩ ∧ x.ls.length = 0 ∧ x.ct = 0 ∧ x.tn.over = false ∧ x.tn.cd = 0 ∧ x.tn.tx = ⟨#[]⟩ ∧ x.tn.has = false ∧ x.tn.nm = ⟨#[]⟩ ∧ x.tn.st = 0) := Iff.rfl
set_option maxHeartbeats 4000000 in
set_option maxRecDepth 100000 in
theorem c68 (x : G16) (ai : Option Addr) (ci : Nat) (w : World) (hl : x.ls.length ≤ 1048576) :
 Calls Tryz.prog 68 #[.agg #[.int .i64 x.kd, .int .i64 x.to, .int .i64 x.fr, .int .i64 x.ep, .int .i64 x.ed, .string x.km.nm, .string x.km.tl, .string x.km.ar, .slice ai x.ls.length ci, .int .i64 x.ct, .bool x.tn.over, .int .i64 x.tn.cd, .string x.tn.tx, .bool x.tn.has, .string x.tn.nm, .int .i64 x.tn.st]] w fun e w' => IsB (NoOffer x) e ∧ Below w.heap.size w w' := by
 have hB0 : ∀ o, Below w.heap.size w (w.alloc o) := fun o => (Below.refl _ _).alloc (Nat.le_refl _) _
 obtain ⟨kd, to, fr, ep, ed, km, ls, ct, tn⟩ := x
 rcases (Classical.em (kd = 0)).symm with e1 | e1
 · have HN : Hid (IsB (NoOffer ⟨kd, to, fr, ep, ed, km, ls, ct, tn⟩) (.returned (.bool false))) := isB_no (fun h => e1 h.1)
   go_enter Tryz.func68, Tryz.ntmps68
   go_wp2
   all_goals go_ret
   all_goals exact ⟨HN.out, hB0 _⟩
 · obtain rfl := e1
   have h59 := fun u => c109 0 to fr ep ed ct tn.cd tn.st km.nm km.tl km.ar tn.tx tn.nm tn.over tn.has 0 0 0 0 0 0 0 0 ⟨#[]⟩ ⟨#[]⟩ ⟨#[]⟩ ⟨#[]⟩ ⟨#[]⟩ false false ai none ls.length 0 ci 0 u hl (Nat.zero_le _)
   go_enter Tryz.func68, Tryz.ntmps68
   go_wp2_with fail
   refine (h59 _).mono ?_
   rintro e w1 ⟨⟨r, rfl, hr⟩, hb1⟩
   have hB1 : Below w.heap.size w w1 := (hB0 _).trans (hb1.mono (by simp))
   have HR : Hid (r = true ↔ NoOffer ⟨0, to, fr, ep, ed, km, ls, ct, tn⟩) := hr.trans ⟨fun h => ⟨rfl, (sm59_none ⟨0, to, fr, ep, ed, km, ls, ct, tn⟩).1 h⟩, fun h => (sm59_none ⟨0, to, fr, ep, ed, km, ls, ct, tn⟩).2 h.2⟩
   clear hr hb1 h59
   go_wp2
   go_ret
   exact ⟨⟨r, rfl, HR.out⟩, hB1⟩
theorem offer_ne (x : G16) : (ofL (offerL x)).toList.isEmpty = false := by
 have : (ofL (offerL x)).toList = offerL x := by rw [ByteArray.toList_eq]; rfl
 rw [this]; rfl
set_option maxHeartbeats 4000000 in
set_option maxRecDepth 100000 in
theorem c29 (x : W19) (ai : Option Addr) (ci : Nat) (w : World) (hs : x.of.le 1048576) (hat : LksAt w ai x.of.ls) :
 Calls Tryz.prog 29 #[.agg #[.int .i64 x.no, .bool x.up, .bool x.has, .int .i64 x.of.kd, .int .i64 x.of.to, .int .i64 x.of.fr, .int .i64 x.of.ep, .int .i64 x.of.ed, .string x.of.km.nm, .string x.of.km.tl, .string x.of.km.ar, .slice ai x.of.ls.length ci, .int .i64 x.of.ct, .bool x.of.tn.over, .int .i64 x.of.tn.cd, .string x.of.tn.tx, .bool x.of.tn.has, .string x.of.tn.nm, .int .i64 x.of.tn.st]] w fun e w' => IsB (WkOk x) e ∧ Below w.heap.size w w' := by
 have hB0 : ∀ o, Below w.heap.size w (w.alloc o) := fun o => (Below.refl _ _).alloc (Nat.le_refl _) _
 have HA : Hid (LksAt w ai x.of.ls) := hat
 have hl : x.of.ls.length ≤ 1048576 := hs.2.1.1
 have HS : Hid (x.of.le 1048576) := hs
 clear hat hs
 obtain ⟨no, up, has, ⟨kd, to, fr, ep, ed, km, ls, ct, tn⟩⟩ := x
 cases h1 : decide (1 ≤ no ∧ no ≤ 4)
 · have HN : Hid (IsB (WkOk ⟨no, up, has, ⟨kd, to, fr, ep, ed, km, ls, ct, tn⟩⟩) (.returned (.bool false))) := isB_no (fun h => of_decide_eq_false h1 h.1)
   go_enter Tryz.func29, Tryz.ntmps29
   go_wp2_with fail
   refine (c67 no 1 4 _).mono ?_
   rintro e w1 ⟨rfl, hw⟩
   obtain rfl := hw.symm
   rw [h1]
   go_wp2
   go_ret
   exact ⟨HN.out, hB0 _⟩
 · cases has
   · have HE : Hid (WkOk ⟨no, up, false, ⟨kd, to, fr, ep, ed, km, ls, ct, tn⟩⟩ ↔ NoOffer ⟨kd, to, fr, ep, ed, km, ls, ct, tn⟩) := by
      constructor
      · rintro ⟨_, ⟨h, _⟩ | ⟨_, h⟩⟩
        · cases h
        · exact h
      · exact fun h => ⟨of_decide_eq_true h1, .inr ⟨rfl, h⟩⟩
     go_enter Tryz.func29, Tryz.ntmps29
     go_wp2_with fail
     refine (c67 no 1 4 _).mono ?_
     rintro e w1 ⟨rfl, hw⟩
     obtain rfl := hw.symm
     rw [h1]
     go_wp2_with fail
     refine (c68 ⟨kd, to, fr, ep, ed, km, ls, ct, tn⟩ ai ci _ hl).mono ?_
     rintro e w2 ⟨⟨r, rfl, hr⟩, hb2⟩
     have hB2 : Below w.heap.size w w2 := (hB0 _).trans (hb2.mono (by simp))
     have HR : Hid (r = true ↔ WkOk ⟨no, up, false, ⟨kd, to, fr, ep, ed, km, ls, ct, tn⟩⟩) := hr.trans HE.out.symm
     clear hr hb2
     go_wp2
     go_ret
     exact ⟨⟨r, rfl, HR.out⟩, hB2⟩
   · cases up
     · have HN : Hid (IsB (WkOk ⟨no, false, true, ⟨kd, to, fr, ep, ed, km, ls, ct, tn⟩⟩) (.returned (.bool false))) := isB_no (fun h => by
        rcases h.2 with ⟨_, h, _⟩ | ⟨h, _⟩
        · cases h
        · cases h)
       go_enter Tryz.func29, Tryz.ntmps29
       go_wp2_with fail
       refine (c67 no 1 4 _).mono ?_
       rintro e w1 ⟨rfl, hw⟩
       obtain rfl := hw.symm
       rw [h1]
       go_wp2
       go_ret
       exact ⟨HN.out, hB0 _⟩
     · have HE : Hid (WkOk ⟨no, true, true, ⟨kd, to, fr, ep, ed, km, ls, ct, tn⟩⟩ ↔ OfferTo no ⟨kd, to, fr, ep, ed, km, ls, ct, tn⟩) := by
        constructor
        · rintro ⟨_, ⟨_, _, h⟩ | ⟨h, _⟩⟩
          · exact h
          · cases h
        · exact fun h => ⟨of_decide_eq_true h1, .inl ⟨rfl, rfl, h⟩⟩
       rcases (Classical.em (kd = 1)).symm with e1 | e1
       · have HN : Hid (IsB (WkOk ⟨no, true, true, ⟨kd, to, fr, ep, ed, km, ls, ct, tn⟩⟩) (.returned (.bool false))) := isB_no (fun h => e1 (HE.out.1 h).1)
         go_enter Tryz.func29, Tryz.ntmps29
         go_wp2_with fail
         refine (c67 no 1 4 _).mono ?_
         rintro e w1 ⟨rfl, hw⟩
         obtain rfl := hw.symm
         rw [h1]
         go_wp2
         all_goals go_ret
         all_goals exact ⟨HN.out, hB0 _⟩
       · obtain rfl := e1
         rcases (Classical.em (to = no)).symm with e2 | e2
         · have HN : Hid (IsB (WkOk ⟨no, true, true, ⟨1, to, fr, ep, ed, km, ls, ct, tn⟩⟩) (.returned (.bool false))) := isB_no (fun h => e2 (HE.out.1 h).2.1)
           go_enter Tryz.func29, Tryz.ntmps29
           go_wp2_with fail
           refine (c67 no 1 4 _).mono ?_
           rintro e w1 ⟨rfl, hw⟩
           obtain rfl := hw.symm
           rw [h1]
           go_wp2
           all_goals go_ret
           all_goals exact ⟨HN.out, hB0 _⟩
         · obtain rfl := e2
           go_enter Tryz.func29, Tryz.ntmps29
           go_wp2_with fail
           refine (c67 to 1 4 _).mono ?_
           rintro e w1 ⟨rfl, hw⟩
           obtain rfl := hw.symm
           rw [h1]
           go_wp2_with fail
           refine (c64 ⟨1, to, fr, ep, ed, km, ls, ct, tn⟩ ai ci _ HS.out (lks_below HA.out (hB0 _))).mono ?_
           rintro e w2 ⟨⟨s, rfl, hr⟩, hb2⟩
           have hB2 : Below w.heap.size w w2 := (hB0 _).trans (hb2.mono (by simp))
           clear hb2
           rcases hr with ⟨hok, rfl⟩ | ⟨hno, rfl⟩
           · have HY : Hid (IsB (WkOk ⟨to, true, true, ⟨1, to, fr, ep, ed, km, ls, ct, tn⟩⟩) (.returned (.bool true))) := isB_yes (HE.out.2 ⟨rfl, rfl, hok⟩)
             have hne := offer_ne ⟨1, to, fr, ep, ed, km, ls, ct, tn⟩
             generalize ofL (offerL ⟨1, to, fr, ep, ed, km, ls, ct, tn⟩) = s at *
             have hne2 : ¬ s.toList = [] := fun h => by rw [h] at hne; cases hne
             clear hok
             go_wp2
             all_goals go_ret
             all_goals exact ⟨HY.out, hB2⟩
           · have HN : Hid (IsB (WkOk ⟨to, true, true, ⟨1, to, fr, ep, ed, km, ls, ct, tn⟩⟩) (.returned (.bool false))) := isB_no (fun h => hno (HE.out.1 h).2.2)
             clear hno
             go_wp2
             all_goals go_ret
             all_goals exact ⟨HN.out, hB2⟩
end Go.Proofs.YtpjpckmfehfniaaGreatDoor.M
namespace Go.Proofs.YtpjpckmfehfniaaGreatDoor.M
open Go.RowKit
end Go.Proofs.YtpjpckmfehfniaaGreatDoor.M
namespace Go.Proofs.YtpjpckmfehfniaaGreatDoor.M
open Go.RowKit
end Go.Proofs.YtpjpckmfehfniaaGreatDoor.M
namespace Go.Proofs.YtpjpckmfehfniaaGreatDoor.M
open Go.RowKit
set_option maxHeartbeats 8000000 in
set_option maxRecDepth 100000 in
theorem c9gf (no kd to fr ep ed ct cd st : Int) (up ha ov hs : Bool) (kn kt ka tx nm : ByteArray) (ls : List L4) (ai : Option Addr) (ci : Nat) (w : World) (hl : ls.length ≤ 1048576) (hat : LksAt w ai ls) :
 Calls Tryz.prog 16 #[.agg #[.int .i64 no, .bool up, .bool ha, .int .i64 kd, .int .i64 to, .int .i64 fr, .int .i64 ep, .int .i64 ed, .string kn, .string kt, .string ka, .slice ai ls.length ci, .int .i64 ct, .bool ov, .int .i64 cd, .string tx, .bool hs, .string nm, .int .i64 st]] w fun e w' => (∃ G, w.heap.size + 3 ≤ G ∧ e = .returned (.agg #[.int .i64 no, .bool up, .bool ha, .int .i64 kd, .int .i64 to, .int .i64 fr, .int .i64 ep, .int .i64 ed, .string kn, .string kt, .string ka, .slice (some ⟨G, 0, none⟩) ls.length ls.length, .int .i64 ct, .bool ov, .int .i64 cd, .string tx, .bool hs, .string nm, .int .i64 st]) ∧ LkG w' (some ⟨G, 0, none⟩) ls) ∧ Below w.heap.size w w' := by
 have hB0 : Below w.heap.size w (((w.alloc (.cells #[.int .i64 no, .bool up, .bool ha, .int .i64 kd, .int .i64 to, .int .i64 fr, .int .i64 ep, .int .i64 ed, .string kn, .string kt, .string ka, .slice ai ls.length ci, .int .i64 ct, .bool ov, .int .i64 cd, .string tx, .bool hs, .string nm, .int .i64 st] 45)).alloc (.cells #[.int .i64 0, .bool false, .bool false, .int .i64 0, .int .i64 0, .int .i64 0, .int .i64 0, .int .i64 0, .string ⟨#[]⟩, .string ⟨#[]⟩, .string ⟨#[]⟩, .slice none 0 0, .int .i64 0, .bool false, .int .i64 0, .string ⟨#[]⟩, .bool false, .string ⟨#[]⟩, .int .i64 0] 50)).alloc (.cells #[.int .i64 no, .bool up, .bool ha, .int .i64 0, .int .i64 0, .int .i64 0, .int .i64 0, .int .i64 0, .string ⟨#[]⟩, .string ⟨#[]⟩, .string ⟨#[]⟩, .slice none 0 0, .int .i64 0, .bool false, .int .i64 0, .string ⟨#[]⟩, .bool false, .string ⟨#[]⟩, .int .i64 0] 50)) := (((Below.refl _ _).alloc (Nat.le_refl _) _).alloc (by simp) _).alloc (by simp; omega) _
 have h14 := c46g ⟨kd, to, fr, ep, ed, ⟨kn, kt, ka⟩, ls, ct, ⟨ov, cd, tx, hs, nm, st⟩⟩ ai ci (((w.alloc (.cells #[.int .i64 no, .bool up, .bool ha, .int .i64 kd, .int .i64 to, .int .i64 fr, .int .i64 ep, .int .i64 ed, .string kn, .string kt, .string ka, .slice ai ls.length ci, .int .i64 ct, .bool ov, .int .i64 cd, .string tx, .bool hs, .string nm, .int .i64 st] 45)).alloc (.cells #[.int .i64 0, .bool false, .bool false, .int .i64 0, .int .i64 0, .int .i64 0, .int .i64 0, .int .i64 0, .string ⟨#[]⟩, .string ⟨#[]⟩, .string ⟨#[]⟩, .slice none 0 0, .int .i64 0, .bool false, .int .i64 0, .string ⟨#[]⟩, .bool false, .string ⟨#[]⟩, .int .i64 0] 50)).alloc (.cells #[.int .i64 no, .bool up, .bool ha, .int .i64 0, .int .i64 0, .int .i64 0, .int .i64 0, .int .i64 0, .string ⟨#[]⟩, .string ⟨#[]⟩, .string ⟨#[]⟩, .slice none 0 0, .int .i64 0, .bool false, .int .i64 0, .string ⟨#[]⟩, .bool false, .string ⟨#[]⟩, .int .i64 0] 50)) hl (lks_below hat hB0)
 dsimp only at h14
 clear hat
 go_enter Tryz.func16, Tryz.ntmps16
 go_wp2_with fail
 refine h14.mono ?_
 rintro e w1 ⟨⟨G, hG0, rfl, hL⟩, hb1⟩
 have hG : w.heap.size + 3 ≤ G := by simp at hG0; omega
 have HL : Hid (LkG w1 (some ⟨G, 0, none⟩) ls) := hL
 have hx1 : Below (w.heap.size + 3) (((w.alloc (.cells #[.int .i64 no, .bool up, .bool ha, .int .i64 kd, .int .i64 to, .int .i64 fr, .int .i64 ep, .int .i64 ed, .string kn, .string kt, .string ka, .slice ai ls.length ci, .int .i64 ct, .bool ov, .int .i64 cd, .string tx, .bool hs, .string nm, .int .i64 st] 45)).alloc (.cells #[.int .i64 0, .bool false, .bool false, .int .i64 0, .int .i64 0, .int .i64 0, .int .i64 0, .int .i64 0, .string ⟨#[]⟩, .string ⟨#[]⟩, .string ⟨#[]⟩, .slice none 0 0, .int .i64 0, .bool false, .int .i64 0, .string ⟨#[]⟩, .bool false, .string ⟨#[]⟩, .int .i64 0] 50)).alloc (.cells #[.int .i64 no, .bool up, .bool ha, .int .i64 0, .int .i64 0, .int .i64 0, .int .i64 0, .int .i64 0, .string ⟨#[]⟩, .string ⟨#[]⟩, .string ⟨#[]⟩, .slice none 0 0, .int .i64 0, .bool false, .int .i64 0, .string ⟨#[]⟩, .bool false, .string ⟨#[]⟩, .int .i64 0] 50)) w1 := by have h := hb1; simp at h; exact h
 have hB1 : Below w.heap.size w w1 := hB0.trans (hx1.mono (by omega))
 have hz1 : w.heap.size + 1 + 1 < w1.heap.size := by have := hx1.size; simp at this; omega
 have ZA : BlkAt w1 w.heap.size [.int .i64 no, .bool up, .bool ha, .int .i64 kd, .int .i64 to, .int .i64 fr, .int .i64 ep, .int .i64 ed, .string kn, .string kt, .string ka, .slice ai ls.length ci, .int .i64 ct, .bool ov, .int .i64 cd, .string tx, .bool hs, .string nm, .int .i64 st] := fun j v h => (hx1.cell (p := ⟨w.heap.size, j, none⟩) (by show w.heap.size < w.heap.size + 3; omega)).trans (by simp [go_sem, h])
 have ZR : BlkAt w1 (w.heap.size + 1) [.int .i64 0, .bool false, .bool false, .int .i64 0, .int .i64 0, .int .i64 0, .int .i64 0, .int .i64 0, .string ⟨#[]⟩, .string ⟨#[]⟩, .string ⟨#[]⟩, .slice none 0 0, .int .i64 0, .bool false, .int .i64 0, .string ⟨#[]⟩, .bool false, .string ⟨#[]⟩, .int .i64 0] := fun j v h => (hx1.cell (p := ⟨w.heap.size + 1, j, none⟩) (by show w.heap.size + 1 < w.heap.size + 3; omega)).trans (by simp [go_sem, h])
 have ZO : BlkAt w1 (w.heap.size + 1 + 1) [.int .i64 no, .bool up, .bool ha, .int .i64 0, .int .i64 0, .int .i64 0, .int .i64 0, .int .i64 0, .string ⟨#[]⟩, .string ⟨#[]⟩, .string ⟨#[]⟩, .slice none 0 0, .int .i64 0, .bool false, .int .i64 0, .string ⟨#[]⟩, .bool false, .string ⟨#[]⟩, .int .i64 0] := fun j v h => (hx1.cell (p := ⟨w.heap.size + 1 + 1, j, none⟩) (by show w.heap.size + 1 + 1 < w.heap.size + 3; omega)).trans (by simp [go_sem, h])
 have fR : OpnAt w1 (w.heap.size + 1) := fun j => (hx1.frozen (p := ⟨w.heap.size + 1, j, none⟩) (by show w.heap.size + 1 < w.heap.size + 3; omega)).trans (by simp [go_sem])
 have fO : OpnAt w1 (w.heap.size + 1 + 1) := fun j => (hx1.frozen (p := ⟨w.heap.size + 1 + 1, j, none⟩) (by show w.heap.size + 1 + 1 < w.heap.size + 3; omega)).trans (by simp [go_sem])
 clear hb1 hx1 hB0
 have E1 : (fill w1 (w.heap.size + 1 + 1) 3 [.int .i64 kd, .int .i64 to, .int .i64 fr, .int .i64 ep, .int .i64 ed, .string kn, .string kt, .string ka, .slice (some ⟨G, 0, none⟩) ls.length ls.length, .int .i64 ct, .bool ov, .int .i64 cd, .string tx, .bool hs, .string nm, .int .i64 st]) = ((((((((((((((((w1.setCell ⟨w.heap.size + 1 + 1, 3, none⟩ (.int .i64 kd)).setCell ⟨w.heap.size + 1 + 1, 4, none⟩ (.int .i64 to)).setCell ⟨w.heap.size + 1 + 1, 5, none⟩ (.int .i64 fr)).setCell ⟨w.heap.size + 1 + 1, 6, none⟩ (.int .i64 ep)).setCell ⟨w.heap.size + 1 + 1, 7, none⟩ (.int .i64 ed)).setCell ⟨w.heap.size + 1 + 1, 8, none⟩ (.string kn)).setCell ⟨w.heap.size + 1 + 1, 9, none⟩ (.string kt)).setCell ⟨w.heap.size + 1 + 1, 10, none⟩ (.string ka)).setCell ⟨w.heap.size + 1 + 1, 11, none⟩ (.slice (some ⟨G, 0, none⟩) ls.length ls.length)).setCell ⟨w.heap.size + 1 + 1, 12, none⟩ (.int .i64 ct)).setCell ⟨w.heap.size + 1 + 1, 13, none⟩ (.bool ov)).setCell ⟨w.heap.size + 1 + 1, 14, none⟩ (.int .i64 cd)).setCell ⟨w.heap.size + 1 + 1, 15, none⟩ (.string tx)).setCell ⟨w.heap.size + 1 + 1, 16, none⟩ (.bool hs)).setCell ⟨w.heap.size + 1 + 1, 17, none⟩ (.string nm)).setCell ⟨w.heap.size + 1 + 1, 18, none⟩ (.int .i64 st)) := by simp only [fill, Nat.reduceAdd]
 obtain ⟨Q, HQ, YO, YR, YF, hBQ, HLQ⟩ : ∃ Q, Hid (((((((((((((((((w1.setCell ⟨w.heap.size + 1 + 1, 3, none⟩ (.int .i64 kd)).setCell ⟨w.heap.size + 1 + 1, 4, none⟩ (.int .i64 to)).setCell ⟨w.heap.size + 1 + 1, 5, none⟩ (.int .i64 fr)).setCell ⟨w.heap.size + 1 + 1, 6, none⟩ (.int .i64 ep)).setCell ⟨w.heap.size + 1 + 1, 7, none⟩ (.int .i64 ed)).setCell ⟨w.heap.size + 1 + 1, 8, none⟩ (.string kn)).setCell ⟨w.heap.size + 1 + 1, 9, none⟩ (.string kt)).setCell ⟨w.heap.size + 1 + 1, 10, none⟩ (.string ka)).setCell ⟨w.heap.size + 1 + 1, 11, none⟩ (.slice (some ⟨G, 0, none⟩) ls.length ls.length)).setCell ⟨w.heap.size + 1 + 1, 12, none⟩ (.int .i64 ct)).setCell ⟨w.heap.size + 1 + 1, 13, none⟩ (.bool ov)).setCell ⟨w.heap.size + 1 + 1, 14, none⟩ (.int .i64 cd)).setCell ⟨w.heap.size + 1 + 1, 15, none⟩ (.string tx)).setCell ⟨w.heap.size + 1 + 1, 16, none⟩ (.bool hs)).setCell ⟨w.heap.size + 1 + 1, 17, none⟩ (.string nm)).setCell ⟨w.heap.size + 1 + 1, 18, none⟩ (.int .i64 st)) = Q) ∧ BlkAt Q (w.heap.size + 1 + 1) [.int .i64 no, .bool up, .bool ha, .int .i64 kd, .int .i64 to, .int .i64 fr, .int .i64 ep, .int .i64 ed, .string kn, .string kt, .string ka, .slice (some ⟨G, 0, none⟩) ls.length ls.length, .int .i64 ct, .bool ov, .int .i64 cd, .string tx, .bool hs, .string nm, .int .i64 st] ∧ BlkAt Q (w.heap.size + 1) [.int .i64 0, .bool false, .bool false, .int .i64 0, .int .i64 0, .int .i64 0, .int .i64 0, .int .i64 0, .string ⟨#[]⟩, .string ⟨#[]⟩, .string ⟨#[]⟩, .slice none 0 0, .int .i64 0, .bool false, .int .i64 0, .string ⟨#[]⟩, .bool false, .string ⟨#[]⟩, .int .i64 0] ∧ OpnAt Q (w.heap.size + 1) ∧ Below w.heap.size w Q ∧ Hid (LkG Q (some ⟨G, 0, none⟩) ls) :=
  ⟨(fill w1 (w.heap.size + 1 + 1) 3 [.int .i64 kd, .int .i64 to, .int .i64 fr, .int .i64 ep, .int .i64 ed, .string kn, .string kt, .string ka, .slice (some ⟨G, 0, none⟩) ls.length ls.length, .int .i64 ct, .bool ov, .int .i64 cd, .string tx, .bool hs, .string nm, .int .i64 st]), E1.symm, BlkAt.fill [.int .i64 kd, .int .i64 to, .int .i64 fr, .int .i64 ep, .int .i64 ed, .string kn, .string kt, .string ka, .slice (some ⟨G, 0, none⟩) ls.length ls.length, .int .i64 ct, .bool ov, .int .i64 cd, .string tx, .bool hs, .string nm, .int .i64 st] [.int .i64 no, .bool up, .bool ha] [.int .i64 0, .int .i64 0, .int .i64 0, .int .i64 0, .int .i64 0, .string ⟨#[]⟩, .string ⟨#[]⟩, .string ⟨#[]⟩, .slice none 0 0, .int .i64 0, .bool false, .int .i64 0, .string ⟨#[]⟩, .bool false, .string ⟨#[]⟩, .int .i64 0] [] 3 ZO rfl rfl, BlkAt.fillO (by omega) _ _ ZR, OpnAt.fill _ _ fR, below_fill (by omega) _ _ hB1, lkg_fill (by omega) _ _ HL.out⟩
 clear E1
 have gO : ∀ j, _ := fO
 have o3 := ZO 3 _ rfl
 have o4 := ZO 4 _ rfl
 have o5 := ZO 5 _ rfl
 have o6 := ZO 6 _ rfl
 have o7 := ZO 7 _ rfl
 have o8 := ZO 8 _ rfl
 have o9 := ZO 9 _ rfl
 have o10 := ZO 10 _ rfl
 have o11 := ZO 11 _ rfl
 have o12 := ZO 12 _ rfl
 have o13 := ZO 13 _ rfl
 have o14 := ZO 14 _ rfl
 have o15 := ZO 15 _ rfl
 have o16 := ZO 16 _ rfl
 have o17 := ZO 17 _ rfl
 have o18 := ZO 18 _ rfl
 clear h14 ZA ZR ZO fR fO hG0 hL HL hB1 hz1
 go_wp2_with (rw [HQ.out]; clear HQ; revert hBQ)
 intro hBQ
 clear gO o3 o4 o5 o6 o7 o8 o9 o10 o11 o12 o13 o14 o15 o16 o17 o18
 have hRG : w.heap.size + 1 ≠ G := by omega
 have hRB : w.heap.size ≤ w.heap.size + 1 := by omega
 have HO : Hid (BlkAt Q (w.heap.size + 1 + 1) [.int .i64 no, .bool up, .bool ha, .int .i64 kd, .int .i64 to, .int .i64 fr, .int .i64 ep, .int .i64 ed, .string kn, .string kt, .string ka, .slice (some ⟨G, 0, none⟩) ls.length ls.length, .int .i64 ct, .bool ov, .int .i64 cd, .string tx, .bool hs, .string nm, .int .i64 st]) := YO
 have HR : Hid (BlkAt Q (w.heap.size + 1) [.int .i64 0, .bool false, .bool false, .int .i64 0, .int .i64 0, .int .i64 0, .int .i64 0, .int .i64 0, .string ⟨#[]⟩, .string ⟨#[]⟩, .string ⟨#[]⟩, .slice none 0 0, .int .i64 0, .bool false, .int .i64 0, .string ⟨#[]⟩, .bool false, .string ⟨#[]⟩, .int .i64 0]) := YR
 clear YO YR
 generalize w.heap.size + 1 + 1 = O at *
 generalize w.heap.size + 1 = R at *
 refine wpList_load_blk rfl 50 (.tmp 3) rfl O rfl [.int .i64 no, .bool up, .bool ha, .int .i64 kd, .int .i64 to, .int .i64 fr, .int .i64 ep, .int .i64 ed, .string kn, .string kt, .string ka, .slice (some ⟨G, 0, none⟩) ls.length ls.length, .int .i64 ct, .bool ov, .int .i64 cd, .string tx, .bool hs, .string nm, .int .i64 st] _ HO.out Tryz.underlying50 rfl (by kernel_rfl) ?_
 refine wpList_store_blk rfl 50 (.tmp 2) (.tmp 17) rfl R 0 rfl [.int .i64 no, .bool up, .bool ha, .int .i64 kd, .int .i64 to, .int .i64 fr, .int .i64 ep, .int .i64 ed, .string kn, .string kt, .string ka, .slice (some ⟨G, 0, none⟩) ls.length ls.length, .int .i64 ct, .bool ov, .int .i64 cd, .string tx, .bool hs, .string nm, .int .i64 st] rfl (fun i hi => by
  rw [Nat.zero_add]
  have hz : i < ([.int .i64 0, .bool false, .bool false, .int .i64 0, .int .i64 0, .int .i64 0, .int .i64 0, .int .i64 0, .string ⟨#[]⟩, .string ⟨#[]⟩, .string ⟨#[]⟩, .slice none 0 0, .int .i64 0, .bool false, .int .i64 0, .string ⟨#[]⟩, .bool false, .string ⟨#[]⟩, .int .i64 0] : List Value).length := hi
  rw [HR.out i _ (List.getElem?_eq_getElem hz)]
  rfl) YF (by simp [Value.oneCell']) (by kernel_rfl) rfl ?_
 have F : BlkAt (fill Q R 0 [.int .i64 no, .bool up, .bool ha, .int .i64 kd, .int .i64 to, .int .i64 fr, .int .i64 ep, .int .i64 ed, .string kn, .string kt, .string ka, .slice (some ⟨G, 0, none⟩) ls.length ls.length, .int .i64 ct, .bool ov, .int .i64 cd, .string tx, .bool hs, .string nm, .int .i64 st]) R [.int .i64 no, .bool up, .bool ha, .int .i64 kd, .int .i64 to, .int .i64 fr, .int .i64 ep, .int .i64 ed, .string kn, .string kt, .string ka, .slice (some ⟨G, 0, none⟩) ls.length ls.length, .int .i64 ct, .bool ov, .int .i64 cd, .string tx, .bool hs, .string nm, .int .i64 st] := BlkAt.fill [.int .i64 no, .bool up, .bool ha, .int .i64 kd, .int .i64 to, .int .i64 fr, .int .i64 ep, .int .i64 ed, .string kn, .string kt, .string ka, .slice (some ⟨G, 0, none⟩) ls.length ls.length, .int .i64 ct, .bool ov, .int .i64 cd, .string tx, .bool hs, .string nm, .int .i64 st] [] [.int .i64 0, .bool false, .bool false, .int .i64 0, .int .i64 0, .int .i64 0, .int .i64 0, .int .i64 0, .string ⟨#[]⟩, .string ⟨#[]⟩, .string ⟨#[]⟩, .slice none 0 0, .int .i64 0, .bool false, .int .i64 0, .string ⟨#[]⟩, .bool false, .string ⟨#[]⟩, .int .i64 0] [] 0 HR.out rfl rfl
 have hBF : Below w.heap.size w (fill Q R 0 [.int .i64 no, .bool up, .bool ha, .int .i64 kd, .int .i64 to, .int .i64 fr, .int .i64 ep, .int .i64 ed, .string kn, .string kt, .string ka, .slice (some ⟨G, 0, none⟩) ls.length ls.length, .int .i64 ct, .bool ov, .int .i64 cd, .string tx, .bool hs, .string nm, .int .i64 st]) := below_fill hRB _ _ hBQ
 have HLF : Hid (LkG (fill Q R 0 [.int .i64 no, .bool up, .bool ha, .int .i64 kd, .int .i64 to, .int .i64 fr, .int .i64 ep, .int .i64 ed, .string kn, .string kt, .string ka, .slice (some ⟨G, 0, none⟩) ls.length ls.length, .int .i64 ct, .bool ov, .int .i64 cd, .string tx, .bool hs, .string nm, .int .i64 st]) (some ⟨G, 0, none⟩) ls) := lkg_fill hRG _ _ HLQ.out
 generalize (fill Q R 0 [.int .i64 no, .bool up, .bool ha, .int .i64 kd, .int .i64 to, .int .i64 fr, .int .i64 ep, .int .i64 ed, .string kn, .string kt, .string ka, .slice (some ⟨G, 0, none⟩) ls.length ls.length, .int .i64 ct, .bool ov, .int .i64 cd, .string tx, .bool hs, .string nm, .int .i64 st]) = V at *
 clear HR HO YF hBQ HLQ
 go_wp2
 refine bodyPost_ret (v := .agg #[.int .i64 no, .bool up, .bool ha, .int .i64 kd, .int .i64 to, .int .i64 fr, .int .i64 ep, .int .i64 ed, .string kn, .string kt, .string ka, .slice (some ⟨G, 0, none⟩) ls.length ls.length, .int .i64 ct, .bool ov, .int .i64 cd, .string tx, .bool hs, .string nm, .int .i64 st]) (results_blk (P := Tryz.prog) (ty := 50) rfl _ V R [.int .i64 no, .bool up, .bool ha, .int .i64 kd, .int .i64 to, .int .i64 fr, .int .i64 ep, .int .i64 ed, .string kn, .string kt, .string ka, .slice (some ⟨G, 0, none⟩) ls.length ls.length, .int .i64 ct, .bool ov, .int .i64 cd, .string tx, .bool hs, .string nm, .int .i64 st] _ rfl F Tryz.underlying50 rfl (by kernel_rfl)) rfl ⟨⟨G, hG, rfl, HLF.out⟩, hBF⟩
theorem c16g (x : W19) (ai : Option Addr) (ci : Nat) (w : World) (hl : x.of.ls.length ≤ 1048576) (hat : LksAt w ai x.of.ls) :
 Calls Tryz.prog 16 #[.agg #[.int .i64 x.no, .bool x.up, .bool x.has, .int .i64 x.of.kd, .int .i64 x.of.to, .int .i64 x.of.fr, .int .i64 x.of.ep, .int .i64 x.of.ed, .string x.of.km.nm, .string x.of.km.tl, .string x.of.km.ar, .slice ai x.of.ls.length ci, .int .i64 x.of.ct, .bool x.of.tn.over, .int .i64 x.of.tn.cd, .string x.of.tn.tx, .bool x.of.tn.has, .string x.of.tn.nm, .int .i64 x.of.tn.st]] w fun e w' => (∃ G, w.heap.size + 3 ≤ G ∧ e = .returned (.agg #[.int .i64 x.no, .bool x.up, .bool x.has, .int .i64 x.of.kd, .int .i64 x.of.to, .int .i64 x.of.fr, .int .i64 x.of.ep, .int .i64 x.of.ed, .string x.of.km.nm, .string x.of.km.tl, .string x.of.km.ar, .slice (some ⟨G, 0, none⟩) x.of.ls.length x.of.ls.length, .int .i64 x.of.ct, .bool x.of.tn.over, .int .i64 x.of.tn.cd, .string x.of.tn.tx, .bool x.of.tn.has, .string x.of.tn.nm, .int .i64 x.of.tn.st]) ∧ LkG w' (some ⟨G, 0, none⟩) x.of.ls) ∧ Below w.heap.size w w' :=
 c9gf x.no x.of.kd x.of.to x.of.fr x.of.ep x.of.ed x.of.ct x.of.tn.cd x.of.tn.st x.up x.has x.of.tn.over x.of.tn.has x.of.km.nm x.of.km.tl x.of.km.ar x.of.tn.tx x.of.tn.nm x.of.ls ai ci w hl hat
end Go.Proofs.YtpjpckmfehfniaaGreatDoor.M
