import Derived.Test.YtpjpckmfehfniaaGreatDoorY3
import Derived.Test.YtpjpckmfehfniaaGreatDoorZC22
import Derived.Test.YtpjpckmfehfniaaGreatDoorY4
import Derived.Deep.RegionHeld3
namespace Go.Proofs.YtpjpckmfehfniaaGreatDoor.M
open Go.RowKit
set_option linter.unusedVariables false
def Sm59 (to : Int) (fr : Int) (ep : Int) (ed : Int) (kn : ByteArray) (kt : ByteArray) (ka : ByteArray) (ct : Int) (ov : Bool) (cd : Int) (tx : ByteArray) (hs : Bool) (nm : ByteArray) (st : Int) (to2 : Int) (fr2 : Int) (ep2 : Int) (ed2 : Int) (kn2 : ByteArray) (kt2 : ByteArray) (ka2 : ByteArray) (ct2 : Int) (ov2 : Bool) (cd2 : Int) (tx2 : ByteArray) (hs2 : Bool) (nm2 : ByteArray) (st2 : Int) (la lb : Nat) : Prop := to = to2 ∧ fr = fr2 ∧ ep = ep2 ∧ ed = ed2 ∧ kn = kn2 ∧ kt = kt2 ∧ ka = ka2 ∧ la = lb ∧ ct = ct2 ∧ ov = ov2 ∧ cd = cd2 ∧ tx = tx2 ∧ hs = hs2 ∧ nm = nm2 ∧ st = st2
set_option maxHeartbeats 8000000 in
set_option maxRecDepth 100000 in
theorem c109 (kd to fr ep ed ct cd st : Int) (kn kt ka tx nm : ByteArray) (ov hs : Bool) (kd2 to2 fr2 ep2 ed2 ct2 cd2 st2 : Int) (kn2 kt2 ka2 tx2 nm2 : ByteArray) (ov2 hs2 : Bool) (ai bi : Option Addr) (la lb ci di : Nat) (w : World) (hla : la ≤ 1048576) (hlb : lb ≤ 1048576) :
 Calls Tryz.prog 109 #[.agg #[.int .i64 kd, .int .i64 to, .int .i64 fr, .int .i64 ep, .int .i64 ed, .string kn, .string kt, .string ka, .slice ai la ci, .int .i64 ct, .bool ov, .int .i64 cd, .string tx, .bool hs, .string nm, .int .i64 st], .agg #[.int .i64 kd2, .int .i64 to2, .int .i64 fr2, .int .i64 ep2, .int .i64 ed2, .string kn2, .string kt2, .string ka2, .slice bi lb di, .int .i64 ct2, .bool ov2, .int .i64 cd2, .string tx2, .bool hs2, .string nm2, .int .i64 st2]] w fun e w' => IsB (Sm59 to fr ep ed kn kt ka ct ov cd tx hs nm st to2 fr2 ep2 ed2 kn2 kt2 ka2 ct2 ov2 cd2 tx2 hs2 nm2 st2 la lb) e ∧ Below w.heap.size w w' := by
 have hB0 : ∀ o p, Below w.heap.size w ((w.alloc o).alloc p) := fun o p => ((Below.refl _ _).alloc (Nat.le_refl _) _).alloc (by simp) _
 rcases (Classical.em (to = to2)).symm with e0 | e0
 · have HN : Hid (IsB (Sm59 to fr ep ed kn kt ka ct ov cd tx hs nm st to2 fr2 ep2 ed2 kn2 kt2 ka2 ct2 ov2 cd2 tx2 hs2 nm2 st2 la lb) (.returned (.bool false))) := isB_no (fun h => e0 h.1)
   go_enter Tryz.func109, Tryz.ntmps109
   go_wp2
   all_goals go_ret
   all_goals exact ⟨HN.out, hB0 _ _⟩
 obtain rfl := e0
 rcases (Classical.em (fr = fr2)).symm with e1 | e1
 · have HN : Hid (IsB (Sm59 to fr ep ed kn kt ka ct ov cd tx hs nm st to fr2 ep2 ed2 kn2 kt2 ka2 ct2 ov2 cd2 tx2 hs2 nm2 st2 la lb) (.returned (.bool false))) := isB_no (fun h => e1 h.2.1)
   go_enter Tryz.func109, Tryz.ntmps109
   go_wp2
   all_goals go_ret
   all_goals exact ⟨HN.out, hB0 _ _⟩
 obtain rfl := e1
 rcases (Classical.em (ep = ep2)).symm with e2 | e2
 · have HN : Hid (IsB (Sm59 to fr ep ed kn kt ka ct ov cd tx hs nm st to fr ep2 ed2 kn2 kt2 ka2 ct2 ov2 cd2 tx2 hs2 nm2 st2 la lb) (.returned (.bool false))) := isB_no (fun h => e2 h.2.2.1)
   go_enter Tryz.func109, Tryz.ntmps109
   go_wp2
   all_goals go_ret
   all_goals exact ⟨HN.out, hB0 _ _⟩
 obtain rfl := e2
 rcases (Classical.em (ed = ed2)).symm with e3 | e3
 · have HN : Hid (IsB (Sm59 to fr ep ed kn kt ka ct ov cd tx hs nm st to fr ep ed2 kn2 kt2 ka2 ct2 ov2 cd2 tx2 hs2 nm2 st2 la lb) (.returned (.bool false))) := isB_no (fun h => e3 h.2.2.2.1)
   go_enter Tryz.func109, Tryz.ntmps109
   go_wp2
   all_goals go_ret
   all_goals exact ⟨HN.out, hB0 _ _⟩
 obtain rfl := e3
 rcases (Classical.em (kn.toList = kn2.toList)).symm with e4 | e4
 · have HN : Hid (IsB (Sm59 to fr ep ed kn kt ka ct ov cd tx hs nm st to fr ep ed kn2 kt2 ka2 ct2 ov2 cd2 tx2 hs2 nm2 st2 la lb) (.returned (.bool false))) := isB_no (fun h => e4 (by rw [h.2.2.2.2.1]))
   go_enter Tryz.func109, Tryz.ntmps109
   go_wp2
   all_goals go_ret
   all_goals exact ⟨HN.out, hB0 _ _⟩
 obtain rfl := (ba_iff _ _).1 e4
 clear e4
 rcases (Classical.em (kt.toList = kt2.toList)).symm with e5 | e5
 · have HN : Hid (IsB (Sm59 to fr ep ed kn kt ka ct ov cd tx hs nm st to fr ep ed kn kt2 ka2 ct2 ov2 cd2 tx2 hs2 nm2 st2 la lb) (.returned (.bool false))) := isB_no (fun h => e5 (by rw [h.2.2.2.2.2.1]))
   go_enter Tryz.func109, Tryz.ntmps109
   go_wp2
   all_goals go_ret
   all_goals exact ⟨HN.out, hB0 _ _⟩
 obtain rfl := (ba_iff _ _).1 e5
 clear e5
 rcases (Classical.em (ka.toList = ka2.toList)).symm with e6 | e6
 · have HN : Hid (IsB (Sm59 to fr ep ed kn kt ka ct ov cd tx hs nm st to fr ep ed kn kt ka2 ct2 ov2 cd2 tx2 hs2 nm2 st2 la lb) (.returned (.bool false))) := isB_no (fun h => e6 (by rw [h.2.2.2.2.2.2.1]))
   go_enter Tryz.func109, Tryz.ntmps109
   go_wp2
   all_goals go_ret
   all_goals exact ⟨HN.out, hB0 _ _⟩
 obtain rfl := (ba_iff _ _).1 e6
 clear e6
 rcases (Classical.em (la = lb)).symm with hlen | hlen
 · have HN : Hid (IsB (Sm59 to fr ep ed kn kt ka ct ov cd tx hs nm st to fr ep ed kn kt ka ct2 ov2 cd2 tx2 hs2 nm2 st2 la lb) (.returned (.bool false))) := isB_no (fun h => hlen h.2.2.2.2.2.2.2.1)
   have hlen2 : ¬ (la : Int) = (lb : Int) := by omega
   go_enter Tryz.func109, Tryz.ntmps109
   go_wp2
   go_ret
   exact ⟨HN.out, hB0 _ _⟩
 obtain rfl := hlen
 rcases (Classical.em (ct = ct2)).symm with e8 | e8
 · have HN : Hid (IsB (Sm59 to fr ep ed kn kt ka ct ov cd tx hs nm st to fr ep ed kn kt ka ct2 ov2 cd2 tx2 hs2 nm2 st2 la la) (.returned (.bool false))) := isB_no (fun h => e8 h.2.2.2.2.2.2.2.2.1)
   go_enter Tryz.func109, Tryz.ntmps109
   go_wp2
   all_goals go_ret
   all_goals exact ⟨HN.out, hB0 _ _⟩
 obtain rfl := e8
 rcases (Classical.em (ov = ov2)).symm with e9 | e9
 · have HN : Hid (IsB (Sm59 to fr ep ed kn kt ka ct ov cd tx hs nm st to fr ep ed kn kt ka ct ov2 cd2 tx2 hs2 nm2 st2 la la) (.returned (.bool false))) := isB_no (fun h => e9 h.2.2.2.2.2.2.2.2.2.1)
   go_enter Tryz.func109, Tryz.ntmps109
   go_wp2
   all_goals go_ret
   all_goals exact ⟨HN.out, hB0 _ _⟩
 obtain rfl := e9
 rcases (Classical.em (cd = cd2)).symm with e10 | e10
 · have HN : Hid (IsB (Sm59 to fr ep ed kn kt ka ct ov cd tx hs nm st to fr ep ed kn kt ka ct ov cd2 tx2 hs2 nm2 st2 la la) (.returned (.bool false))) := isB_no (fun h => e10 h.2.2.2.2.2.2.2.2.2.2.1)
   go_enter Tryz.func109, Tryz.ntmps109
   go_wp2
   all_goals go_ret
   all_goals exact ⟨HN.out, hB0 _ _⟩
 obtain rfl := e10
 rcases (Classical.em (tx.toList = tx2.toList)).symm with e11 | e11
 · have HN : Hid (IsB (Sm59 to fr ep ed kn kt ka ct ov cd tx hs nm st to fr ep ed kn kt ka ct ov cd tx2 hs2 nm2 st2 la la) (.returned (.bool false))) := isB_no (fun h => e11 (by rw [h.2.2.2.2.2.2.2.2.2.2.2.1]))
   go_enter Tryz.func109, Tryz.ntmps109
   go_wp2
   all_goals go_ret
   all_goals exact ⟨HN.out, hB0 _ _⟩
 obtain rfl := (ba_iff _ _).1 e11
 clear e11
 rcases (Classical.em (hs = hs2)).symm with e12 | e12
 · have HN : Hid (IsB (Sm59 to fr ep ed kn kt ka ct ov cd tx hs nm st to fr ep ed kn kt ka ct ov cd tx hs2 nm2 st2 la la) (.returned (.bool false))) := isB_no (fun h => e12 h.2.2.2.2.2.2.2.2.2.2.2.2.1)
   go_enter Tryz.func109, Tryz.ntmps109
   go_wp2
   all_goals go_ret
   all_goals exact ⟨HN.out, hB0 _ _⟩
 obtain rfl := e12
 rcases (Classical.em (nm.toList = nm2.toList)).symm with e13 | e13
 · have HN : Hid (IsB (Sm59 to fr ep ed kn kt ka ct ov cd tx hs nm st to fr ep ed kn kt ka ct ov cd tx hs nm2 st2 la la) (.returned (.bool false))) := isB_no (fun h => e13 (by rw [h.2.2.2.2.2.2.2.2.2.2.2.2.2.1]))
   go_enter Tryz.func109, Tryz.ntmps109
   go_wp2
   all_goals go_ret
   all_goals exact ⟨HN.out, hB0 _ _⟩
 obtain rfl := (ba_iff _ _).1 e13
 clear e13
 rcases (Classical.em (st = st2)).symm with e14 | e14
 · have HN : Hid (IsB (Sm59 to fr ep ed kn kt ka ct ov cd tx hs nm st to fr ep ed kn kt ka ct ov cd tx hs nm st2 la la) (.returned (.bool false))) := isB_no (fun h => e14 h.2.2.2.2.2.2.2.2.2.2.2.2.2.2)
   go_enter Tryz.func109, Tryz.ntmps109
   go_wp2
   all_goals go_ret
   all_goals exact ⟨HN.out, hB0 _ _⟩
 obtain rfl := e14
 have HY : Hid (IsB (Sm59 to fr ep ed kn kt ka ct ov cd tx hs nm st to fr ep ed kn kt ka ct ov cd tx hs nm st la la) (.returned (.bool true))) := isB_yes (by simp [Sm59])
 go_enter Tryz.func109, Tryz.ntmps109
 go_wp2
 go_ret
 exact ⟨HY.out, hB0 _ _⟩
end Go.Proofs.YtpjpckmfehfniaaGreatDoor.M
namespace Go.Proofs.YtpjpckmfehfniaaGreatDoor.M
open Go.RowKit
def Bare (x : G16) : Prop := x.fr = 0 ∧ x.ct = 0 ∧ x.tn.over = false ∧ x.tn.cd = 0 ∧ x.tn.tx = ⟨#[]⟩ ∧ x.tn.has = false ∧ x.tn.nm = ⟨#[]⟩ ∧ x.tn.st = 0
def OfferOk (x : G16) : Prop := Bare x ∧ (1 ≤ x.to ∧ x.to ≤ 4) ∧ momOk x.ep x.ed = true ∧ okM x.km = true ∧ LksOk x.ls
theorem sm_offer (x : G16) : Sm30 1 x.to x.fr x.ep x.ed x.km.nm x.km.tl x.km.ar x.ct x.tn.over x.tn.cd x.tn.tx x.tn.has x.tn.nm x.tn.st 1 x.to 0 x.ep x.ed x.km.nm x.km.tl x.km.ar 0 false 0 ⟨#[]⟩ false ⟨#[]⟩ 0 true ↔ Bare x := by
 unfold Sm30 Bare
 constructor
 · rintro ⟨_, _, h1, _, _, _, _, _, _, h2, h3, h4, h5, h6, h7, h8⟩
   exact ⟨h1, h2, h3, h4, h5, h6, h7, h8⟩
 · rintro ⟨h1, h2, h3, h4, h5, h6, h7, h8⟩
   exact ⟨rfl, rfl, h1, rfl, rfl, rfl, rfl, rfl, rfl, h2, h3, h4, h5, h6, h7, h8⟩
set_option maxHeartbeats 8000000 in
set_option maxRecDepth 100000 in
theorem c145 (x : G16) (ai : Option Addr) (ci : Nat) (w : World) (hs : x.le 1048576) (hat : LksAt w ai x.ls) :
 Calls Tryz.prog 145 #[.agg #[.int .i64 1, .int .i64 x.to, .int .i64 x.fr, .int .i64 x.ep, .int .i64 x.ed, .string x.km.nm, .string x.km.tl, .string x.km.ar, .slice ai x.ls.length ci, .int .i64 x.ct, .bool x.tn.over, .int .i64 x.tn.cd, .string x.tn.tx, .bool x.tn.has, .string x.tn.nm, .int .i64 x.tn.st]] w fun e w' => IsB (OfferOk x) e ∧ Below w.heap.size w w' := by
 obtain ⟨s1, ⟨hl, s3⟩, s4⟩ := hs
 have HA : Hid (LksAt w ai x.ls) := hat
 have HS : Hid (∀ i, (x.ls.getD i l4z).le 1048576) := s3
 have hB0 : ∀ o p, Below w.heap.size w ((w.alloc o).alloc p) := fun o p => ((Below.refl _ _).alloc (Nat.le_refl _) _).alloc (by simp) _
 clear hat s3
 go_enter Tryz.func145, Tryz.ntmps145
 go_wp2_with fail
 refine (c71 1 x.to x.fr x.ep x.ed x.ct x.tn.cd x.tn.st x.km.nm x.km.tl x.km.ar x.tn.tx x.tn.nm x.tn.over x.tn.has 1 x.to 0 x.ep x.ed 0 0 0 x.km.nm x.km.tl x.km.ar ⟨#[]⟩ ⟨#[]⟩ false false ai ai x.ls.length x.ls.length ci ci true _ (fun u hb => c117 ai ai ci ci x.ls u hl (lks_below HA.out ((hB0 _ _).trans (hb.mono (by simp <;> omega)))) (lks_below HA.out ((hB0 _ _).trans (hb.mono (by simp <;> omega)))))).mono ?_
 rintro e w1 ⟨⟨r, rfl, hr⟩, hb1⟩
 have HR : Hid (r = true ↔ Bare x) := hr.trans (sm_offer x)
 have hx1 : Below (w.heap.size + 2) ((w.alloc (.cells #[.int .i64 1, .int .i64 x.to, .int .i64 x.fr, .int .i64 x.ep, .int .i64 x.ed, .string x.km.nm, .string x.km.tl, .string x.km.ar, .slice ai x.ls.length ci, .int .i64 x.ct, .bool x.tn.over, .int .i64 x.tn.cd, .string x.tn.tx, .bool x.tn.has, .string x.tn.nm, .int .i64 x.tn.st] 48)).alloc (.cells #[.int .i64 1, .int .i64 x.to, .int .i64 0, .int .i64 x.ep, .int .i64 x.ed, .string x.km.nm, .string x.km.tl, .string x.km.ar, .slice ai x.ls.length ci, .int .i64 0, .bool false, .int .i64 0, .string ⟨#[]⟩, .bool false, .string ⟨#[]⟩, .int .i64 0] 48)) w1 := by have h := hb1; simp at h; exact h
 have hB1 : Below w.heap.size w w1 := (hB0 _ _).trans (hx1.mono (by omega))
 have hz1 : w.heap.size < w1.heap.size := by have := hx1.size; simp at this; omega
 have ZA : BlkAt w1 w.heap.size [.int .i64 1, .int .i64 x.to, .int .i64 x.fr, .int .i64 x.ep, .int .i64 x.ed, .string x.km.nm, .string x.km.tl, .string x.km.ar, .slice ai x.ls.length ci, .int .i64 x.ct, .bool x.tn.over, .int .i64 x.tn.cd, .string x.tn.tx, .bool x.tn.has, .string x.tn.nm, .int .i64 x.tn.st] := fun j v h => (hx1.cell (p := ⟨w.heap.size, j, none⟩) (by show w.heap.size < w.heap.size + 2; omega)).trans (by simp [go_sem, h])
 have a1 := ZA 1 _ rfl
 have a3 := ZA 3 _ rfl
 have a4 := ZA 4 _ rfl
 have a5 := ZA 5 _ rfl
 have a6 := ZA 6 _ rfl
 have a7 := ZA 7 _ rfl
 clear hr hb1 hx1
 cases r
 · have HN : Hid (IsB (OfferOk x) (.returned (.bool false))) := isB_no (fun h => absurd (HR.out.2 h.1) Bool.false_ne_true)
   go_wp2
   go_ret
   exact ⟨HN.out, hB1⟩
 · go_wp2_with fail
   refine (c69 x.to w1).mono ?_
   rintro e w1' ⟨rfl, hw⟩
   obtain rfl := hw.symm
   cases h2 : decide (1 ≤ x.to ∧ x.to ≤ 4)
   · have HN : Hid (IsB (OfferOk x) (.returned (.bool false))) := isB_no (fun h => of_decide_eq_false h2 h.2.1)
     go_wp2
     go_ret
     exact ⟨HN.out, hB1⟩
   · go_wp2_with fail
     refine (c176 x.ep x.ed w1).mono ?_
     rintro e w1' ⟨rfl, hw⟩
     obtain rfl := hw.symm
     cases h3 : momOk x.ep x.ed
     · have HN : Hid (IsB (OfferOk x) (.returned (.bool false))) := isB_no (fun h => absurd (h3.symm.trans h.2.2.1) (by decide))
       go_wp2
       go_ret
       exact ⟨HN.out, hB1⟩
     · go_wp2_with fail
       refine (c38 x.km w1 ⟨by have := s1.1; omega, by have := s1.2.1; omega, by have := s1.2.2; omega⟩).mono ?_
       rintro e w2 ⟨rfl, hb2⟩
       have hB2 : Below w.heap.size w w2 := hB1.trans (hb2.mono hB1.size)
       have b8 := (ZA.below hb2 hz1) 8 _ rfl
       clear hb2 a1 a3 a4 a5 a6 a7
       cases h4 : okM x.km
       · have HN : Hid (IsB (OfferOk x) (.returned (.bool false))) := isB_no (fun h => absurd (h4.symm.trans h.2.2.2.1) (by decide))
         go_wp2
         go_ret
         exact ⟨HN.out, hB2⟩
       · go_wp2_with fail
         refine (c177 ai ci x.ls w2 hl HS.out (lks_below HA.out hB2)).mono ?_
         rintro e w3 ⟨⟨r, rfl, hr⟩, hb3⟩
         have hB3 : Below w.heap.size w w3 := hB2.trans (hb3.mono hB2.size)
         have HE : Hid (r = true ↔ OfferOk x) := ⟨fun h => ⟨HR.out.1 (by first | rfl | trivial), of_decide_eq_true h2, h3, h4, hr.1 h⟩, fun h => hr.2 h.2.2.2.2⟩
         clear hr hb3
         go_wp2
         go_ret
         exact ⟨⟨r, rfl, HE.out⟩, hB3⟩
set_option maxHeartbeats 4000000 in
set_option maxRecDepth 100000 in
theorem c130 (w : World) :
 Calls Tryz.prog 130 #[] w fun e w' => e = .returned (.agg #[.string ⟨#[]⟩, .nilFunc, .nilFunc, .nilFunc, .string ⟨#[111, 102, 102, 101, 114]⟩, .func (.func 145) #[] #[], .func (.func 146) #[] #[], .func (.func 147) #[] #[], .string ⟨#[116, 117, 114, 110]⟩, .func (.func 148) #[] #[], .func (.func 149) #[] #[], .func (.func 150) #[] #[], .string ⟨#[104, 101, 114, 101]⟩, .func (.func 151) #[] #[], .func (.func 152) #[] #[], .func (.func 153) #[] #[]]) ∧ Below w.heap.size w w' := by
 have hsn : ∀ (w : World) (a : Addr) (m : Mode), (store a .nilFunc m).run Tryz.prog w = stored Tryz.prog w a .nilFunc m := fun w a m => run_store _ _ _ _ _ rfl
 have hsf : ∀ (w : World) (a : Addr) (f : Fn) (x y : Array Value) (m : Mode), (store a (.func f x y) m).run Tryz.prog w = stored Tryz.prog w a (.func f x y) m := fun w a f x y m => run_store _ _ _ _ _ rfl
 go_enter Tryz.func130, Tryz.ntmps130
 go_wp2
 refine bodyPost_ret (v := .agg #[.string ⟨#[]⟩, .nilFunc, .nilFunc, .nilFunc, .string ⟨#[111, 102, 102, 101, 114]⟩, .func (.func 145) #[] #[], .func (.func 146) #[] #[], .func (.func 147) #[] #[], .string ⟨#[116, 117, 114, 110]⟩, .func (.func 148) #[] #[], .func (.func 149) #[] #[], .func (.func 150) #[] #[], .string ⟨#[104, 101, 114, 101]⟩, .func (.func 151) #[] #[], .func (.func 152) #[] #[], .func (.func 153) #[] #[]]) (by simp [results, Tryz.results130, go_sem]) rfl ⟨rfl, ?_⟩
 exact (Below.refl _ _).alloc (Nat.le_refl _) _
end Go.Proofs.YtpjpckmfehfniaaGreatDoor.M
