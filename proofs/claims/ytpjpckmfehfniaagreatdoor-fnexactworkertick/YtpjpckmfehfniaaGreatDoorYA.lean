import Derived.Test.YtpjpckmfehfniaaGreatDoorY9
namespace Go.Proofs.YtpjpckmfehfniaaGreatDoor.M
open Go.RowKit
def offerL (x : G16) : List UInt8 := [111, 102, 102, 101, 114, 32] ++ dec x.to ++ whenL x ++ [32] ++ x.km.tl.data.toList ++ [32] ++ quoteL x.km.ar.data.toList ++ [10] ++ looksL x.ls
theorem offerL_eq (x : G16) : (⟨#[111, 102, 102, 101, 114, 32]⟩ : ByteArray) ++ ofL (dec x.to) ++ ofL (whenL x) ++ ⟨#[32]⟩ ++ x.km.tl ++ ⟨#[32]⟩ ++ ofL (quoteL x.km.ar.data.toList) ++ ⟨#[10]⟩ ++ ofL (looksL x.ls) = ofL (offerL x) := by
 show ofL [111, 102, 102, 101, 114, 32] ++ ofL (dec x.to) ++ ofL (whenL x) ++ ofL [32] ++ ofL x.km.tl.data.toList ++ ofL [32] ++ ofL (quoteL x.km.ar.data.toList) ++ ofL [10] ++ ofL (looksL x.ls) = _
 rw [cat_ofL, cat_ofL, cat_ofL, cat_ofL, cat_ofL, cat_ofL, cat_ofL, cat_ofL]; rfl
def Is27 (x : G16) (e : Ending) : Prop := ∃ s, e = .returned (.string s) ∧ ((OfferOk x ∧ s = ofL (offerL x)) ∨ (¬ OfferOk x ∧ s = ⟨#[]⟩))
theorem is27_no {x : G16} (h : ¬ OfferOk x) : Is27 x (.returned (.string ⟨#[]⟩)) := ⟨_, rfl, .inr ⟨h, rfl⟩⟩
theorem sm59_offer (x : G16) : Sm59 x.to x.fr x.ep x.ed x.km.nm x.km.tl x.km.ar x.ct x.tn.over x.tn.cd x.tn.tx x.tn.has x.tn.nm x.tn.st x.to 0 x.ep x.ed x.km.nm x.km.tl x.km.ar 0 false 0 ⟨#[]⟩ false ⟨#[]⟩ 0 x.ls.length x.ls.length ↔ Bare x := by
 unfold Sm59 Bare
 constructor
 · rintro ⟨_, h1, _, _, _, _, _, _, h2, h3, h4, h5, h6, h7, h8⟩
   exact ⟨h1, h2, h3, h4, h5, h6, h7, h8⟩
 · rintro ⟨h1, h2, h3, h4, h5, h6, h7, h8⟩
   exact ⟨rfl, h1, rfl, rfl, rfl, rfl, rfl, rfl, h2, h3, h4, h5, h6, h7, h8⟩
theorem when_size (x : G16) (h1 : 0 ≤ x.ep) (h2 : x.ep ≤ 1000) (h3 : 0 ≤ x.ed) (h4 : x.ed ≤ 1000) : (ofL (whenL x)).size ≤ 200000005 + x.km.nm.size := by
 have a := dec_size x.ep h1 (by omega)
 have b := dec_size x.ed h3 (by omega)
 have e : x.km.nm.data.toList.length = x.km.nm.size := by simp
 rw [ofL_size] at a b ⊢
 unfold whenL
 simp only [List.length_append, List.length_cons, List.length_nil]
 omega
theorem looks_len (ls : List L4) (hok : LksOk ls) (hs : ∀ i, (ls.getD i l4z).le 1048576) : ∀ k, k ≤ ls.length → (looksL (ls.take k)).length ≤ k * 110000000 := by
 intro k
 induction k with
 | zero => intro _; simp [looksL]
 | succ k ih =>
   intro hk
   rw [looks_snoc ls k (by omega), List.length_append]
   have hx := hs k
   have hcd := lk_code (hok.2 k (by omega))
   have zr := res_size (ls.getD k l4z).cd (ls.getD k l4z).tx hcd.1 (by omega)
   have := congrArg ByteArray.size (lookL_eq (ls.getD k l4z))
   rw [ofL_size] at this
   simp only [ByteArray.size_append] at this
   have w4 := word_size (ls.getD k l4z).has
   have e1 : (⟨#[32]⟩ : ByteArray).size = 1 := rfl
   have e2 : (⟨#[10]⟩ : ByteArray).size = 1 := rfl
   have := ih (by omega)
   have s1 := hx.1
   have s2 := hx.2
   omega
theorem looks_size (ls : List L4) (hok : LksOk ls) (hs : ∀ i, (ls.getD i l4z).le 1048576) : (ofL (looksL ls)).size ≤ 1650000000 := by
 have := looks_len ls hok hs ls.length (Nat.le_refl _)
 rw [List.take_of_length_le (Nat.le_refl _)] at this
 rw [ofL_size]
 have := hok.1
 omega
set_option maxHeartbeats 16000000 in
set_option maxRecDepth 100000 in
theorem c64 (x : G16) (ai : Option Addr) (ci : Nat) (w : World) (hs : x.le 1048576) (hat : LksAt w ai x.ls) :
 Calls Tryz.prog 64 #[.agg #[.int .i64 1, .int .i64 x.to, .int .i64 x.fr, .int .i64 x.ep, .int .i64 x.ed, .string x.km.nm, .string x.km.tl, .string x.km.ar, .slice ai x.ls.length ci, .int .i64 x.ct, .bool x.tn.over, .int .i64 x.tn.cd, .string x.tn.tx, .bool x.tn.has, .string x.tn.nm, .int .i64 x.tn.st]] w fun e w' => Is27 x e ∧ Below w.heap.size w w' := by
 obtain ⟨⟨s1, s1', s1''⟩, ⟨hl, s3⟩, s4⟩ := hs
 have HA : Hid (LksAt w ai x.ls) := hat
 have HS : Hid (∀ i, (x.ls.getD i l4z).le 1048576) := s3
 have hB0 : ∀ o, Below w.heap.size w (w.alloc o) := fun o => (Below.refl _ _).alloc (Nat.le_refl _) _
 have HM : Hid (momOk x.ep x.ed = (decide (1 ≤ x.ep ∧ x.ep ≤ 200) && decide (0 ≤ x.ed ∧ x.ed ≤ 1000))) := rfl
 clear hat s3
 cases h1 : decide (1 ≤ x.ep ∧ x.ep ≤ 200)
 · have HF : Hid (momOk x.ep x.ed = false) := by rw [HM.out, h1]; rfl
   go_enter Tryz.func64, Tryz.ntmps64
   go_wp2_with fail
   refine (c67 x.ep 1 200 _).mono ?_
   rintro e w0 ⟨rfl, hw⟩
   obtain rfl := hw.symm
   rw [h1]
   go_wp2_with fail
   refine (c109 1 x.to x.fr x.ep x.ed x.ct x.tn.cd x.tn.st x.km.nm x.km.tl x.km.ar x.tn.tx x.tn.nm x.tn.over x.tn.has 0 x.to 0 x.ep x.ed 0 0 0 x.km.nm x.km.tl x.km.ar ⟨#[]⟩ ⟨#[]⟩ false false ai ai x.ls.length x.ls.length ci ci _ hl hl).mono ?_
   rintro e w1 ⟨⟨r, rfl, hr⟩, hb1⟩
   have HR : Hid (r = true ↔ Bare x) := hr.trans (sm59_offer x)
   have hx1 : Below (w.heap.size + 1) (w.alloc (.cells #[.int .i64 1, .int .i64 x.to, .int .i64 x.fr, .int .i64 x.ep, .int .i64 x.ed, .string x.km.nm, .string x.km.tl, .string x.km.ar, .slice ai x.ls.length ci, .int .i64 x.ct, .bool x.tn.over, .int .i64 x.tn.cd, .string x.tn.tx, .bool x.tn.has, .string x.tn.nm, .int .i64 x.tn.st] 48)) w1 := by have h := hb1; simp at h; exact h
   have hB1 : Below w.heap.size w w1 := (hB0 _).trans (hx1.mono (by omega))
   have hz1 : w.heap.size < w1.heap.size := by have := hx1.size; simp at this; omega
   have ZA : BlkAt w1 w.heap.size [.int .i64 1, .int .i64 x.to, .int .i64 x.fr, .int .i64 x.ep, .int .i64 x.ed, .string x.km.nm, .string x.km.tl, .string x.km.ar, .slice ai x.ls.length ci, .int .i64 x.ct, .bool x.tn.over, .int .i64 x.tn.cd, .string x.tn.tx, .bool x.tn.has, .string x.tn.nm, .int .i64 x.tn.st] := fun j v h => (hx1.cell (p := ⟨w.heap.size, j, none⟩) (by show w.heap.size < w.heap.size + 1; omega)).trans (by simp [go_sem, h])
   clear hr hb1 hx1
   have a1 := ZA 1 _ rfl
   cases r
   · have HN : Hid (Is27 x (.returned (.string ⟨#[]⟩))) := is27_no (fun h => absurd (HF.out.symm.trans h.2.2.1) (by decide))
     go_wp2
     go_ret
     exact ⟨HN.out, hB1⟩
   · have HN : Hid (Is27 x (.returned (.string ⟨#[]⟩))) := is27_no (fun h => absurd (HF.out.symm.trans h.2.2.1) (by decide))
     go_wp2
     go_ret
     exact ⟨HN.out, hB1⟩
 · cases h2 : decide (0 ≤ x.ed ∧ x.ed ≤ 1000)
   · have HF : Hid (momOk x.ep x.ed = false) := by rw [HM.out, h1, h2]; rfl
     go_enter Tryz.func64, Tryz.ntmps64
     go_wp2_with fail
     refine (c67 x.ep 1 200 _).mono ?_
     rintro e w0 ⟨rfl, hw⟩
     obtain rfl := hw.symm
     rw [h1]
     go_wp2_with fail
     refine (c67 x.ed 0 1000 _).mono ?_
     rintro e w0 ⟨rfl, hw⟩
     obtain rfl := hw.symm
     rw [h2]
     go_wp2_with fail
     refine (c109 1 x.to x.fr x.ep x.ed x.ct x.tn.cd x.tn.st x.km.nm x.km.tl x.km.ar x.tn.tx x.tn.nm x.tn.over x.tn.has 0 x.to 0 x.ep x.ed 0 0 0 x.km.nm x.km.tl x.km.ar ⟨#[]⟩ ⟨#[]⟩ false false ai ai x.ls.length x.ls.length ci ci _ hl hl).mono ?_
     rintro e w1 ⟨⟨r, rfl, hr⟩, hb1⟩
     have HR : Hid (r = true ↔ Bare x) := hr.trans (sm59_offer x)
     have hx1 : Below (w.heap.size + 1) (w.alloc (.cells #[.int .i64 1, .int .i64 x.to, .int .i64 x.fr, .int .i64 x.ep, .int .i64 x.ed, .string x.km.nm, .string x.km.tl, .string x.km.ar, .slice ai x.ls.length ci, .int .i64 x.ct, .bool x.tn.over, .int .i64 x.tn.cd, .string x.tn.tx, .bool x.tn.has, .string x.tn.nm, .int .i64 x.tn.st] 48)) w1 := by have h := hb1; simp at h; exact h
     have hB1 : Below w.heap.size w w1 := (hB0 _).trans (hx1.mono (by omega))
     have hz1 : w.heap.size < w1.heap.size := by have := hx1.size; simp at this; omega
     have ZA : BlkAt w1 w.heap.size [.int .i64 1, .int .i64 x.to, .int .i64 x.fr, .int .i64 x.ep, .int .i64 x.ed, .string x.km.nm, .string x.km.tl, .string x.km.ar, .slice ai x.ls.length ci, .int .i64 x.ct, .bool x.tn.over, .int .i64 x.tn.cd, .string x.tn.tx, .bool x.tn.has, .string x.tn.nm, .int .i64 x.tn.st] := fun j v h => (hx1.cell (p := ⟨w.heap.size, j, none⟩) (by show w.heap.size < w.heap.size + 1; omega)).trans (by simp [go_sem, h])
     clear hr hb1 hx1
     have a1 := ZA 1 _ rfl
     cases r
     · have HN : Hid (Is27 x (.returned (.string ⟨#[]⟩))) := is27_no (fun h => absurd (HF.out.symm.trans h.2.2.1) (by decide))
       go_wp2
       go_ret
       exact ⟨HN.out, hB1⟩
     · have HN : Hid (Is27 x (.returned (.string ⟨#[]⟩))) := is27_no (fun h => absurd (HF.out.symm.trans h.2.2.1) (by decide))
       go_wp2
       go_ret
       exact ⟨HN.out, hB1⟩
   · have HF : Hid (momOk x.ep x.ed = true) := by rw [HM.out, h1, h2]; rfl
     have q1 := of_decide_eq_true h1
     have q2 := of_decide_eq_true h2
     go_enter Tryz.func64, Tryz.ntmps64
     go_wp2_with fail
     refine (c67 x.ep 1 200 _).mono ?_
     rintro e w0 ⟨rfl, hw⟩
     obtain rfl := hw.symm
     rw [h1]
     go_wp2_with fail
     refine (c67 x.ed 0 1000 _).mono ?_
     rintro e w0 ⟨rfl, hw⟩
     obtain rfl := hw.symm
     rw [h2]
     go_wp2_with fail
     refine (c109 1 x.to x.fr x.ep x.ed x.ct x.tn.cd x.tn.st x.km.nm x.km.tl x.km.ar x.tn.tx x.tn.nm x.tn.over x.tn.has 0 x.to 0 x.ep x.ed 0 0 0 x.km.nm x.km.tl x.km.ar ⟨#[]⟩ ⟨#[]⟩ false false ai ai x.ls.length x.ls.length ci ci _ hl hl).mono ?_
     rintro e w1 ⟨⟨r, rfl, hr⟩, hb1⟩
     have HR : Hid (r = true ↔ Bare x) := hr.trans (sm59_offer x)
     have hx1 : Below (w.heap.size + 1) (w.alloc (.cells #[.int .i64 1, .int .i64 x.to, .int .i64 x.fr, .int .i64 x.ep, .int .i64 x.ed, .string x.km.nm, .string x.km.tl, .string x.km.ar, .slice ai x.ls.length ci, .int .i64 x.ct, .bool x.tn.over, .int .i64 x.tn.cd, .string x.tn.tx, .bool x.tn.has, .string x.tn.nm, .int .i64 x.tn.st] 48)) w1 := by have h := hb1; simp at h; exact h
     have hB1 : Below w.heap.size w w1 := (hB0 _).trans (hx1.mono (by omega))
     have hz1 : w.heap.size < w1.heap.size := by have := hx1.size; simp at this; omega
     have ZA : BlkAt w1 w.heap.size [.int .i64 1, .int .i64 x.to, .int .i64 x.fr, .int .i64 x.ep, .int .i64 x.ed, .string x.km.nm, .string x.km.tl, .string x.km.ar, .slice ai x.ls.length ci, .int .i64 x.ct, .bool x.tn.over, .int .i64 x.tn.cd, .string x.tn.tx, .bool x.tn.has, .string x.tn.nm, .int .i64 x.tn.st] := fun j v h => (hx1.cell (p := ⟨w.heap.size, j, none⟩) (by show w.heap.size < w.heap.size + 1; omega)).trans (by simp [go_sem, h])
     clear hr hb1 hx1
     have a1 := ZA 1 _ rfl
     have a5 := ZA 5 _ rfl
     have a6 := ZA 6 _ rfl
     have a7 := ZA 7 _ rfl
     cases r
     · have HN : Hid (Is27 x (.returned (.string ⟨#[]⟩))) := is27_no (fun h => absurd (HR.out.2 h.1) Bool.false_ne_true)
       go_wp2
       go_ret
       exact ⟨HN.out, hB1⟩
     · go_wp2_with fail
       refine (c67 x.to 1 4 _).mono ?_
       rintro e w0 ⟨rfl, hw⟩
       obtain rfl := hw.symm
       cases h3 : decide (1 ≤ x.to ∧ x.to ≤ 4)
       · have HN : Hid (Is27 x (.returned (.string ⟨#[]⟩))) := is27_no (fun h => of_decide_eq_false h3 h.2.1)
         go_wp2
         go_ret
         exact ⟨HN.out, hB1⟩
       · have q3 := of_decide_eq_true h3
         go_wp2_with fail
         refine (c32 x.km w1 ⟨by omega, by omega, by omega⟩).mono ?_
         rintro e w2 ⟨rfl, hb2⟩
         have hB2 : Below w.heap.size w w2 := hB1.trans (hb2.mono hB1.size)
         have hz2 : w.heap.size < w2.heap.size := Nat.lt_of_lt_of_le hz1 hb2.size
         have ZB := ZA.below hb2 hz1
         have b8 := ZB 8 _ rfl
         clear hb2 a1 a5 a6 a7 ZA
         cases h4 : okM x.km
         · have HN : Hid (Is27 x (.returned (.string ⟨#[]⟩))) := is27_no (fun h => absurd (h4.symm.trans h.2.2.2.1) (by decide))
           go_wp2
           go_ret
           exact ⟨HN.out, hB2⟩
         · go_wp2_with fail
           refine (c33 ai ci x.ls w2 hl HS.out (lks_below HA.out hB2)).mono ?_
           rintro e w3 ⟨⟨r, rfl, hr⟩, hb3⟩
           have hB3 : Below w.heap.size w w3 := hB2.trans (hb3.mono hB2.size)
           have hz3 : w.heap.size < w3.heap.size := Nat.lt_of_lt_of_le hz2 hb3.size
           have ZC := ZB.below hb3 hz2
           clear hb3 b8 ZB
           cases r
           · have HN : Hid (Is27 x (.returned (.string ⟨#[]⟩))) := is27_no (fun h => absurd (hr.2 h.2.2.2.2) Bool.false_ne_true)
             go_wp2
             go_ret
             exact ⟨HN.out, hB3⟩
           · have HLO : Hid (LksOk x.ls) := hr.1 rfl
             have HOK : Hid (OfferOk x) := ⟨HR.out.1 (by first | rfl | trivial), q3, HF.out, h4, HLO.out⟩
             have a0 := ZC 0 _ rfl
             have a1 := ZC 1 _ rfl
             have a2 := ZC 2 _ rfl
             have a3 := ZC 3 _ rfl
             have a4 := ZC 4 _ rfl
             have a5 := ZC 5 _ rfl
             have a6 := ZC 6 _ rfl
             have a7 := ZC 7 _ rfl
             have a8 := ZC 8 _ rfl
             have a9 := ZC 9 _ rfl
             have a10 := ZC 10 _ rfl
             have a11 := ZC 11 _ rfl
             have a12 := ZC 12 _ rfl
             have a13 := ZC 13 _ rfl
             have a14 := ZC 14 _ rfl
             have a15 := ZC 15 _ rfl
             clear hr ZC
             have z1 := dec_size x.to (by omega) (by omega)
             have z2 := when_size x (by omega) (by omega) (by omega) (by omega)
             have z3 := quote_size x.km.ar
             have z4 := looks_size x.ls HLO.out HS.out
             have k0 : ¬ 9223372036854775807 < 6 + (ofL (dec x.to)).size := by omega
             have k1 : ¬ 9223372036854775807 < 6 + (ofL (dec x.to)).size + (ofL (whenL x)).size := by omega
             have k2' : ¬ 9223372036854775807 ≤ 6 + (ofL (dec x.to)).size + (ofL (whenL x)).size := by omega
             have k2 : ¬ 9223372036854775807 < 6 + (ofL (dec x.to)).size + (ofL (whenL x)).size + 1 := by omega
             have k3 : ¬ 9223372036854775807 < 6 + (ofL (dec x.to)).size + (ofL (whenL x)).size + 1 + x.km.tl.size := by omega
             have k4' : ¬ 9223372036854775807 ≤ 6 + (ofL (dec x.to)).size + (ofL (whenL x)).size + 1 + x.km.tl.size := by omega
             have k4 : ¬ 9223372036854775807 < 6 + (ofL (dec x.to)).size + (ofL (whenL x)).size + 1 + x.km.tl.size + 1 := by omega
             have k5 : ¬ 9223372036854775807 < 6 + (ofL (dec x.to)).size + (ofL (whenL x)).size + 1 + x.km.tl.size + 1 + (ofL (quoteL x.km.ar.data.toList)).size := by omega
             have k6' : ¬ 9223372036854775807 ≤ 6 + (ofL (dec x.to)).size + (ofL (whenL x)).size + 1 + x.km.tl.size + 1 + (ofL (quoteL x.km.ar.data.toList)).size := by omega
             have k6 : ¬ 9223372036854775807 < 6 + (ofL (dec x.to)).size + (ofL (whenL x)).size + 1 + x.km.tl.size + 1 + (ofL (quoteL x.km.ar.data.toList)).size + 1 := by omega
             have k7 : ¬ 9223372036854775807 < 6 + (ofL (dec x.to)).size + (ofL (whenL x)).size + 1 + x.km.tl.size + 1 + (ofL (quoteL x.km.ar.data.toList)).size + 1 + (ofL (looksL x.ls)).size := by omega
             have HE : Hid ((⟨#[111, 102, 102, 101, 114, 32]⟩ : ByteArray) ++ ofL (dec x.to) ++ ofL (whenL x) ++ ⟨#[32]⟩ ++ x.km.tl ++ ⟨#[32]⟩ ++ ofL (quoteL x.km.ar.data.toList) ++ ⟨#[10]⟩ ++ ofL (looksL x.ls) = ofL (offerL x)) := offerL_eq x
             have h63 : ∀ u, Calls Tryz.prog 110 #[.agg #[.int .i64 1, .int .i64 x.to, .int .i64 x.fr, .int .i64 x.ep, .int .i64 x.ed, .string x.km.nm, .string x.km.tl, .string x.km.ar, .slice ai x.ls.length ci, .int .i64 x.ct, .bool x.tn.over, .int .i64 x.tn.cd, .string x.tn.tx, .bool x.tn.has, .string x.tn.nm, .int .i64 x.tn.st]] u fun e w' => e = .returned (.string (ofL (whenL x))) ∧ Below u.heap.size u w' := fun u => c110 ⟨1, x.to, x.fr, x.ep, x.ed, x.km, x.ls, x.ct, x.tn⟩ ai ci u (by show 0 ≤ x.ep; omega) (by show x.ep ≤ 1000; omega) (by show 0 ≤ x.ed; omega) (by show x.ed ≤ 1000; omega) (by show x.km.nm.size ≤ 1048600; omega)
             go_wp2_with fail
             refine wp_region_held_drew (S := (fun u => u.cell? ⟨w.heap.size, 0, none⟩ = some (.int .i64 1) ∧ u.cell? ⟨w.heap.size, 1, none⟩ = some (.int .i64 x.to) ∧ u.cell? ⟨w.heap.size, 2, none⟩ = some (.int .i64 x.fr) ∧ u.cell? ⟨w.heap.size, 3, none⟩ = some (.int .i64 x.ep) ∧ u.cell? ⟨w.heap.size, 4, none⟩ = some (.int .i64 x.ed) ∧ u.cell? ⟨w.heap.size, 5, none⟩ = some (.string x.km.nm) ∧ u.cell? ⟨w.heap.size, 6, none⟩ = some (.string x.km.tl) ∧ u.cell? ⟨w.heap.size, 7, none⟩ = some (.string x.km.ar) ∧ u.cell? ⟨w.heap.size, 8, none⟩ = some (.slice ai x.ls.length ci) ∧ u.cell? ⟨w.heap.size, 9, none⟩ = some (.int .i64 x.ct) ∧ u.cell? ⟨w.heap.size, 10, none⟩ = some (.bool x.tn.over) ∧ u.cell? ⟨w.heap.size, 11, none⟩ = some (.int .i64 x.tn.cd) ∧ u.cell? ⟨w.heap.size, 12, none⟩ = some (.string x.tn.tx) ∧ u.cell? ⟨w.heap.size, 13, none⟩ = some (.bool x.tn.has) ∧ u.cell? ⟨w.heap.size, 14, none⟩ = some (.string x.tn.nm) ∧ u.cell? ⟨w.heap.size, 15, none⟩ = some (.int .i64 x.tn.st))) (by kernel_rfl) ?_ (fun hHeld => ?_)
             · ((try dsimp only); go_keep)
             refine wpAnyH_take (i := 0) (oi := { dst := some 49, op := Op.fieldAddr 48 (Operand.tmp 1) 1, type := 0, pos := "l7_mail.go:30", after := #[], guard := none }) (v := ?_) rfl (by kernel_rfl) (by kernel_rfl) (by kernel_rfl) (fun _ _ _ h => h) (Or.inl ⟨by rfl, ?_⟩) (by assumption) ?_
             rotate_left
             · intro wq hSw
               (try dsimp only at hSw)
               go_simp
               try with_reducible rfl
             try simp only [Act.put, List.setIfInBounds_toArray, List.set_cons_zero, List.set_cons_succ]
             refine wpAnyH_take (i := 1) (oi := { dst := some 50, op := Op.load 3 (Operand.tmp 49), type := 3, pos := "l7_mail.go:30", after := #[{ on := 0, ground := Ground.data }], guard := none }) (v := ?_) rfl (by kernel_rfl) (by kernel_rfl) (by kernel_rfl) (fun _ _ _ h => h) (Or.inl ⟨by rfl, ?_⟩) (by assumption) ?_
             rotate_left
             · intro wq hSw
               (try dsimp only at hSw)
               go_simp
               try with_reducible rfl
             try simp only [Act.put, List.setIfInBounds_toArray, List.set_cons_zero, List.set_cons_succ]
             refine wpAnyH_take (i := 4) (oi := { dst := some 53, op := Op.load 48 (Operand.tmp 1), type := 48, pos := "l7_mail.go:30", after := #[], guard := none }) (v := ?_) rfl (by kernel_rfl) (by kernel_rfl) (by kernel_rfl) (fun _ _ _ h => h) (Or.inl ⟨by rfl, ?_⟩) (by assumption) ?_
             rotate_left
             · intro wq hSw
               (try dsimp only at hSw)
               go_simp
               try with_reducible rfl
             try simp only [Act.put, List.setIfInBounds_toArray, List.set_cons_zero, List.set_cons_succ]
             refine wpAnyH_take (i := 8) (oi := { dst := some 57, op := Op.fieldAddr 48 (Operand.tmp 1) 5, type := 0, pos := "l7_mail.go:30", after := #[], guard := none }) (v := ?_) rfl (by kernel_rfl) (by kernel_rfl) (by kernel_rfl) (fun _ _ _ h => h) (Or.inl ⟨by rfl, ?_⟩) (by assumption) ?_
             rotate_left
             · intro wq hSw
               (try dsimp only at hSw)
               go_simp
               try with_reducible rfl
             try simp only [Act.put, List.setIfInBounds_toArray, List.set_cons_zero, List.set_cons_succ]
             refine wpAnyH_take (i := 9) (oi := { dst := some 58, op := Op.fieldAddr 32 (Operand.tmp 57) 1, type := 0, pos := "l7_mail.go:30", after := #[{ on := 8, ground := Ground.data }], guard := none }) (v := ?_) rfl (by kernel_rfl) (by kernel_rfl) (by kernel_rfl) (fun _ _ _ h => h) (Or.inl ⟨by rfl, ?_⟩) (by assumption) ?_
             rotate_left
             · intro wq hSw
               (try dsimp only at hSw)
               go_simp
               try with_reducible rfl
             try simp only [Act.put, List.setIfInBounds_toArray, List.set_cons_zero, List.set_cons_succ]
             refine wpAnyH_take (i := 10) (oi := { dst := some 59, op := Op.load 9 (Operand.tmp 58), type := 9, pos := "l7_mail.go:30", after := #[{ on := 9, ground := Ground.data }], guard := none }) (v := ?_) rfl (by kernel_rfl) (by kernel_rfl) (by kernel_rfl) (fun _ _ _ h => h) (Or.inl ⟨by rfl, ?_⟩) (by assumption) ?_
             rotate_left
             · intro wq hSw
               (try dsimp only at hSw)
               go_simp
               try with_reducible rfl
             try simp only [Act.put, List.setIfInBounds_toArray, List.set_cons_zero, List.set_cons_succ]
             refine wpAnyH_take (i := 13) (oi := { dst := some 62, op := Op.fieldAddr 48 (Operand.tmp 1) 5, type := 0, pos := "l7_mail.go:30", after := #[], guard := none }) (v := ?_) rfl (by kernel_rfl) (by kernel_rfl) (by kernel_rfl) (fun _ _ _ h => h) (Or.inl ⟨by rfl, ?_⟩) (by assumption) ?_
             rotate_left
             · intro wq hSw
               (try dsimp only at hSw)
               go_simp
               try with_reducible rfl
             try simp only [Act.put, List.setIfInBounds_toArray, List.set_cons_zero, List.set_cons_succ]
             refine wpAnyH_take (i := 14) (oi := { dst := some 63, op := Op.fieldAddr 32 (Operand.tmp 62) 2, type := 0, pos := "l7_mail.go:30", after := #[{ on := 13, ground := Ground.data }], guard := none }) (v := ?_) rfl (by kernel_rfl) (by kernel_rfl) (by kernel_rfl) (fun _ _ _ h => h) (Or.inl ⟨by rfl, ?_⟩) (by assumption) ?_
             rotate_left
             · intro wq hSw
               (try dsimp only at hSw)
               go_simp
               try with_reducible rfl
             try simp only [Act.put, List.setIfInBounds_toArray, List.set_cons_zero, List.set_cons_succ]
             refine wpAnyH_take (i := 15) (oi := { dst := some 64, op := Op.load 9 (Operand.tmp 63), type := 9, pos := "l7_mail.go:30", after := #[{ on := 14, ground := Ground.data }], guard := none }) (v := ?_) rfl (by kernel_rfl) (by kernel_rfl) (by kernel_rfl) (fun _ _ _ h => h) (Or.inl ⟨by rfl, ?_⟩) (by assumption) ?_
             rotate_left
             · intro wq hSw
               (try dsimp only at hSw)
               go_simp
               try with_reducible rfl
             try simp only [Act.put, List.setIfInBounds_toArray, List.set_cons_zero, List.set_cons_succ]
             refine wpAnyH_take (i := 19) (oi := { dst := some 68, op := Op.fieldAddr 48 (Operand.tmp 1) 6, type := 0, pos := "l7_mail.go:30", after := #[], guard := none }) (v := ?_) rfl (by kernel_rfl) (by kernel_rfl) (by kernel_rfl) (fun _ _ _ h => h) (Or.inl ⟨by rfl, ?_⟩) (by assumption) ?_
             rotate_left
             · intro wq hSw
               (try dsimp only at hSw)
               go_simp
               try with_reducible rfl
             try simp only [Act.put, List.setIfInBounds_toArray, List.set_cons_zero, List.set_cons_succ]
             refine wpAnyH_take (i := 20) (oi := { dst := some 69, op := Op.load 34 (Operand.tmp 68), type := 34, pos := "l7_mail.go:30", after := #[{ on := 19, ground := Ground.data }], guard := none }) (v := ?_) rfl (by kernel_rfl) (by kernel_rfl) (by kernel_rfl) (fun _ _ _ h => h) (Or.inl ⟨by rfl, ?_⟩) (by assumption) ?_
             rotate_left
             · intro wq hSw
               (try dsimp only at hSw)
               go_simp
               try with_reducible rfl
             try simp only [Act.put, List.setIfInBounds_toArray, List.set_cons_zero, List.set_cons_succ]
             refine wpAnyH_ready (rs := [2]) (by kernel_rfl) (by simp) ?_
             refine AllReadyH.cons (o := { dst := some 51, op := Op.call { callee := Callee.value (Operand.func 77), args := #[Operand.tmp 50], argTypes := #[3] }, type := 9, pos := "l7_mail.go:30", after := #[{ on := 1, ground := Ground.data }], guard := none }) rfl (fun K hK => ?_) AllReadyH.nil
             go_simp
             refine (c77 (x.to.toNat + 1) x.to _ (by omega) (by omega) (Nat.lt_succ_self _)).mono ?_
             rintro e w4 ⟨rfl, hb4⟩
             have HB4 : Hid (Below w3.heap.size w3 w4) := ((Below.refl _ _).drew).trans hb4
             have b0 := (HB4.out.cell (p := ⟨w.heap.size, 0, none⟩) (by exact hz3)).trans a0
             have b1 := (HB4.out.cell (p := ⟨w.heap.size, 1, none⟩) (by exact hz3)).trans a1
             have b2 := (HB4.out.cell (p := ⟨w.heap.size, 2, none⟩) (by exact hz3)).trans a2
             have b3 := (HB4.out.cell (p := ⟨w.heap.size, 3, none⟩) (by exact hz3)).trans a3
             have b4 := (HB4.out.cell (p := ⟨w.heap.size, 4, none⟩) (by exact hz3)).trans a4
             have b5 := (HB4.out.cell (p := ⟨w.heap.size, 5, none⟩) (by exact hz3)).trans a5
             have b6 := (HB4.out.cell (p := ⟨w.heap.size, 6, none⟩) (by exact hz3)).trans a6
             have b7 := (HB4.out.cell (p := ⟨w.heap.size, 7, none⟩) (by exact hz3)).trans a7
             have b8 := (HB4.out.cell (p := ⟨w.heap.size, 8, none⟩) (by exact hz3)).trans a8
             have b9 := (HB4.out.cell (p := ⟨w.heap.size, 9, none⟩) (by exact hz3)).trans a9
             have b10 := (HB4.out.cell (p := ⟨w.heap.size, 10, none⟩) (by exact hz3)).trans a10
             have b11 := (HB4.out.cell (p := ⟨w.heap.size, 11, none⟩) (by exact hz3)).trans a11
             have b12 := (HB4.out.cell (p := ⟨w.heap.size, 12, none⟩) (by exact hz3)).trans a12
             have b13 := (HB4.out.cell (p := ⟨w.heap.size, 13, none⟩) (by exact hz3)).trans a13
             have b14 := (HB4.out.cell (p := ⟨w.heap.size, 14, none⟩) (by exact hz3)).trans a14
             have b15 := (HB4.out.cell (p := ⟨w.heap.size, 15, none⟩) (by exact hz3)).trans a15
             have hz4 : w.heap.size < w4.heap.size := Nat.lt_of_lt_of_le hz3 HB4.out.size
             clear hb4
             go_wp2_with fail
             clear hHeld
             refine hK.out _ _ ?_ (fun hHeld => ?_)
             · ((try dsimp only); go_keep)
             clear hK K
             try simp only [Act.put, List.setIfInBounds_toArray, List.set_cons_zero, List.set_cons_succ]
             refine wpAnyH_take (i := 3) (oi := { dst := some 52, op := Op.binOp BinOp.add 9 (Operand.const (Value.string { data := #[111, 102, 102, 101, 114, 32] })) (Operand.tmp 51) 9, type := 9, pos := "l7_mail.go:30", after := #[{ on := 2, ground := Ground.data }], guard := none }) (v := ?_) rfl (by kernel_rfl) (by kernel_rfl) (by kernel_rfl) (fun _ _ _ h => h) (Or.inl ⟨by rfl, ?_⟩) (by assumption) ?_
             rotate_left
             · intro wq hSw
               (try dsimp only at hSw)
               go_simp
               try with_reducible rfl
             try simp only [Act.put, List.setIfInBounds_toArray, List.set_cons_zero, List.set_cons_succ]
             refine wpAnyH_ready (rs := [5]) (by kernel_rfl) (by simp) ?_
             refine AllReadyH.cons (o := { dst := some 54, op := Op.call { callee := Callee.value (Operand.func 110), args := #[Operand.tmp 53], argTypes := #[48] }, type := 9, pos := "l7_mail.go:30", after := #[{ on := 4, ground := Ground.data }, { on := 2, ground := Ground.chain }], guard := none }) rfl (fun K hK => ?_) AllReadyH.nil
             go_simp
             refine (h63 w4).mono ?_
             rintro e w5 ⟨rfl, hb5⟩
             have HB5 : Hid (Below w4.heap.size w4 w5) := hb5
             have d0 := (HB5.out.cell (p := ⟨w.heap.size, 0, none⟩) (by exact hz4)).trans b0
             have d1 := (HB5.out.cell (p := ⟨w.heap.size, 1, none⟩) (by exact hz4)).trans b1
             have d2 := (HB5.out.cell (p := ⟨w.heap.size, 2, none⟩) (by exact hz4)).trans b2
             have d3 := (HB5.out.cell (p := ⟨w.heap.size, 3, none⟩) (by exact hz4)).trans b3
             have d4 := (HB5.out.cell (p := ⟨w.heap.size, 4, none⟩) (by exact hz4)).trans b4
             have d5 := (HB5.out.cell (p := ⟨w.heap.size, 5, none⟩) (by exact hz4)).trans b5
             have d6 := (HB5.out.cell (p := ⟨w.heap.size, 6, none⟩) (by exact hz4)).trans b6
             have d7 := (HB5.out.cell (p := ⟨w.heap.size, 7, none⟩) (by exact hz4)).trans b7
             have d8 := (HB5.out.cell (p := ⟨w.heap.size, 8, none⟩) (by exact hz4)).trans b8
             have d9 := (HB5.out.cell (p := ⟨w.heap.size, 9, none⟩) (by exact hz4)).trans b9
             have d10 := (HB5.out.cell (p := ⟨w.heap.size, 10, none⟩) (by exact hz4)).trans b10
             have d11 := (HB5.out.cell (p := ⟨w.heap.size, 11, none⟩) (by exact hz4)).trans b11
             have d12 := (HB5.out.cell (p := ⟨w.heap.size, 12, none⟩) (by exact hz4)).trans b12
             have d13 := (HB5.out.cell (p := ⟨w.heap.size, 13, none⟩) (by exact hz4)).trans b13
             have d14 := (HB5.out.cell (p := ⟨w.heap.size, 14, none⟩) (by exact hz4)).trans b14
             have d15 := (HB5.out.cell (p := ⟨w.heap.size, 15, none⟩) (by exact hz4)).trans b15
             have hz5 : w.heap.size < w5.heap.size := Nat.lt_of_lt_of_le hz4 HB5.out.size
             clear hb5
             go_wp2_with fail
             clear hHeld
             refine hK.out _ _ ?_ (fun hHeld => ?_)
             · ((try dsimp only); go_keep)
             clear hK K
             try simp only [Act.put, List.setIfInBounds_toArray, List.set_cons_zero, List.set_cons_succ]
             refine wpAnyH_take (i := 6) (oi := { dst := some 55, op := Op.binOp BinOp.add 9 (Operand.tmp 52) (Operand.tmp 54) 9, type := 9, pos := "l7_mail.go:30", after := #[{ on := 3, ground := Ground.data }, { on := 5, ground := Ground.data }], guard := none }) (v := ?_) rfl (by kernel_rfl) (by kernel_rfl) (by kernel_rfl) (fun _ _ _ h => h) (Or.inl ⟨by rfl, ?_⟩) (by assumption) ?_
             rotate_left
             · intro wq hSw
               (try dsimp only at hSw)
               go_simp
               try with_reducible rfl
             try simp only [Act.put, List.setIfInBounds_toArray, List.set_cons_zero, List.set_cons_succ]
             refine wpAnyH_take (i := 7) (oi := { dst := some 56, op := Op.binOp BinOp.add 9 (Operand.tmp 55) (Operand.const (Value.string { data := #[32] })) 9, type := 9, pos := "l7_mail.go:30", after := #[{ on := 6, ground := Ground.data }], guard := none }) (v := ?_) rfl (by kernel_rfl) (by kernel_rfl) (by kernel_rfl) (fun _ _ _ h => h) (Or.inl ⟨by rfl, ?_⟩) (by assumption) ?_
             rotate_left
             · intro wq hSw
               (try dsimp only at hSw)
               go_simp
               try with_reducible rfl
             try simp only [Act.put, List.setIfInBounds_toArray, List.set_cons_zero, List.set_cons_succ]
             refine wpAnyH_take (i := 11) (oi := { dst := some 60, op := Op.binOp BinOp.add 9 (Operand.tmp 56) (Operand.tmp 59) 9, type := 9, pos := "l7_mail.go:30", after := #[{ on := 7, ground := Ground.data }, { on := 10, ground := Ground.data }], guard := none }) (v := ?_) rfl (by kernel_rfl) (by kernel_rfl) (by kernel_rfl) (fun _ _ _ h => h) (Or.inl ⟨by rfl, ?_⟩) (by assumption) ?_
             rotate_left
             · intro wq hSw
               (try dsimp only at hSw)
               go_simp
               try with_reducible rfl
             try simp only [Act.put, List.setIfInBounds_toArray, List.set_cons_zero, List.set_cons_succ]
             refine wpAnyH_take (i := 12) (oi := { dst := some 61, op := Op.binOp BinOp.add 9 (Operand.tmp 60) (Operand.const (Value.string { data := #[32] })) 9, type := 9, pos := "l7_mail.go:30", after := #[{ on := 11, ground := Ground.data }], guard := none }) (v := ?_) rfl (by kernel_rfl) (by kernel_rfl) (by kernel_rfl) (fun _ _ _ h => h) (Or.inl ⟨by rfl, ?_⟩) (by assumption) ?_
             rotate_left
             · intro wq hSw
               (try dsimp only at hSw)
               go_simp
               try with_reducible rfl
             try simp only [Act.put, List.setIfInBounds_toArray, List.set_cons_zero, List.set_cons_succ]
             refine wpAnyH_ready (rs := [16]) (by kernel_rfl) (by simp) ?_
             refine AllReadyH.cons (o := { dst := some 65, op := Op.call { callee := Callee.value (Operand.func 111), args := #[Operand.tmp 64], argTypes := #[9] }, type := 9, pos := "l7_mail.go:30", after := #[{ on := 15, ground := Ground.data }, { on := 5, ground := Ground.chain }], guard := none }) rfl (fun K hK => ?_) AllReadyH.nil
             go_simp
             refine (c111' x.km.ar _ (by omega)).mono ?_
             rintro e w6 ⟨rfl, hb6⟩
             have HB6 : Hid (Below w5.heap.size w5 w6) := hb6
             have f0 := (HB6.out.cell (p := ⟨w.heap.size, 0, none⟩) (by exact hz5)).trans d0
             have f1 := (HB6.out.cell (p := ⟨w.heap.size, 1, none⟩) (by exact hz5)).trans d1
             have f2 := (HB6.out.cell (p := ⟨w.heap.size, 2, none⟩) (by exact hz5)).trans d2
             have f3 := (HB6.out.cell (p := ⟨w.heap.size, 3, none⟩) (by exact hz5)).trans d3
             have f4 := (HB6.out.cell (p := ⟨w.heap.size, 4, none⟩) (by exact hz5)).trans d4
             have f5 := (HB6.out.cell (p := ⟨w.heap.size, 5, none⟩) (by exact hz5)).trans d5
             have f6 := (HB6.out.cell (p := ⟨w.heap.size, 6, none⟩) (by exact hz5)).trans d6
             have f7 := (HB6.out.cell (p := ⟨w.heap.size, 7, none⟩) (by exact hz5)).trans d7
             have f8 := (HB6.out.cell (p := ⟨w.heap.size, 8, none⟩) (by exact hz5)).trans d8
             have f9 := (HB6.out.cell (p := ⟨w.heap.size, 9, none⟩) (by exact hz5)).trans d9
             have f10 := (HB6.out.cell (p := ⟨w.heap.size, 10, none⟩) (by exact hz5)).trans d10
             have f11 := (HB6.out.cell (p := ⟨w.heap.size, 11, none⟩) (by exact hz5)).trans d11
             have f12 := (HB6.out.cell (p := ⟨w.heap.size, 12, none⟩) (by exact hz5)).trans d12
             have f13 := (HB6.out.cell (p := ⟨w.heap.size, 13, none⟩) (by exact hz5)).trans d13
             have f14 := (HB6.out.cell (p := ⟨w.heap.size, 14, none⟩) (by exact hz5)).trans d14
             have f15 := (HB6.out.cell (p := ⟨w.heap.size, 15, none⟩) (by exact hz5)).trans d15
             have hz6 : w.heap.size < w6.heap.size := Nat.lt_of_lt_of_le hz5 HB6.out.size
             have hB6 : Below w.heap.size w w6 := ((hB3.trans (HB4.out.mono hB3.size)).trans (HB5.out.mono (hB3.trans (HB4.out.mono hB3.size)).size)).trans (HB6.out.mono ((hB3.trans (HB4.out.mono hB3.size)).trans (HB5.out.mono (hB3.trans (HB4.out.mono hB3.size)).size)).size)
             clear hb6
             go_wp2_with fail
             clear hHeld
             refine hK.out _ _ ?_ (fun hHeld => ?_)
             · ((try dsimp only); go_keep)
             clear hK K
             try simp only [Act.put, List.setIfInBounds_toArray, List.set_cons_zero, List.set_cons_succ]
             refine wpAnyH_take (i := 17) (oi := { dst := some 66, op := Op.binOp BinOp.add 9 (Operand.tmp 61) (Operand.tmp 65) 9, type := 9, pos := "l7_mail.go:30", after := #[{ on := 12, ground := Ground.data }, { on := 16, ground := Ground.data }], guard := none }) (v := ?_) rfl (by kernel_rfl) (by kernel_rfl) (by kernel_rfl) (fun _ _ _ h => h) (Or.inl ⟨by rfl, ?_⟩) (by assumption) ?_
             rotate_left
             · intro wq hSw
               (try dsimp only at hSw)
               go_simp
               try with_reducible rfl
             try simp only [Act.put, List.setIfInBounds_toArray, List.set_cons_zero, List.set_cons_succ]
             refine wpAnyH_take (i := 18) (oi := { dst := some 67, op := Op.binOp BinOp.add 9 (Operand.tmp 66) (Operand.const (Value.string { data := #[10] })) 9, type := 9, pos := "l7_mail.go:30", after := #[{ on := 17, ground := Ground.data }], guard := none }) (v := ?_) rfl (by kernel_rfl) (by kernel_rfl) (by kernel_rfl) (fun _ _ _ h => h) (Or.inl ⟨by rfl, ?_⟩) (by assumption) ?_
             rotate_left
             · intro wq hSw
               (try dsimp only at hSw)
               go_simp
               try with_reducible rfl
             try simp only [Act.put, List.setIfInBounds_toArray, List.set_cons_zero, List.set_cons_succ]
             refine wpAnyH_ready (rs := [21]) (by kernel_rfl) (by simp) ?_
             refine AllReadyH.cons (o := { dst := some 70, op := Op.call { callee := Callee.value (Operand.func 112), args := #[Operand.tmp 69], argTypes := #[34] }, type := 9, pos := "l7_mail.go:30", after := #[{ on := 20, ground := Ground.data }, { on := 16, ground := Ground.chain }], guard := none }) rfl (fun K hK => ?_) AllReadyH.nil
             go_simp
             refine (c112 ai ci x.ls w6 HLO.out HS.out (lks_below HA.out hB6)).mono ?_
             rintro e w7 ⟨rfl, hb7⟩
             have HB7 : Hid (Below w6.heap.size w6 w7) := hb7
             have g0 := (HB7.out.cell (p := ⟨w.heap.size, 0, none⟩) (by exact hz6)).trans f0
             have g1 := (HB7.out.cell (p := ⟨w.heap.size, 1, none⟩) (by exact hz6)).trans f1
             have g2 := (HB7.out.cell (p := ⟨w.heap.size, 2, none⟩) (by exact hz6)).trans f2
             have g3 := (HB7.out.cell (p := ⟨w.heap.size, 3, none⟩) (by exact hz6)).trans f3
             have g4 := (HB7.out.cell (p := ⟨w.heap.size, 4, none⟩) (by exact hz6)).trans f4
             have g5 := (HB7.out.cell (p := ⟨w.heap.size, 5, none⟩) (by exact hz6)).trans f5
             have g6 := (HB7.out.cell (p := ⟨w.heap.size, 6, none⟩) (by exact hz6)).trans f6
             have g7 := (HB7.out.cell (p := ⟨w.heap.size, 7, none⟩) (by exact hz6)).trans f7
             have g8 := (HB7.out.cell (p := ⟨w.heap.size, 8, none⟩) (by exact hz6)).trans f8
             have g9 := (HB7.out.cell (p := ⟨w.heap.size, 9, none⟩) (by exact hz6)).trans f9
             have g10 := (HB7.out.cell (p := ⟨w.heap.size, 10, none⟩) (by exact hz6)).trans f10
             have g11 := (HB7.out.cell (p := ⟨w.heap.size, 11, none⟩) (by exact hz6)).trans f11
             have g12 := (HB7.out.cell (p := ⟨w.heap.size, 12, none⟩) (by exact hz6)).trans f12
             have g13 := (HB7.out.cell (p := ⟨w.heap.size, 13, none⟩) (by exact hz6)).trans f13
             have g14 := (HB7.out.cell (p := ⟨w.heap.size, 14, none⟩) (by exact hz6)).trans f14
             have g15 := (HB7.out.cell (p := ⟨w.heap.size, 15, none⟩) (by exact hz6)).trans f15
             clear hb7
             go_wp2_with fail
             clear hHeld
             refine hK.out _ _ ?_ (fun hHeld => ?_)
             · ((try dsimp only); go_keep)
             clear hK K
             try simp only [Act.put, List.setIfInBounds_toArray, List.set_cons_zero, List.set_cons_succ]
             refine wpAnyH_take (i := 22) (oi := { dst := some 71, op := Op.binOp BinOp.add 9 (Operand.tmp 67) (Operand.tmp 70) 9, type := 9, pos := "l7_mail.go:30", after := #[{ on := 18, ground := Ground.data }, { on := 21, ground := Ground.data }], guard := none }) (v := ?_) rfl (by kernel_rfl) (by kernel_rfl) (by kernel_rfl) (fun _ _ _ h => h) (Or.inl ⟨by rfl, ?_⟩) (by assumption) ?_
             rotate_left
             · intro wq hSw
               (try dsimp only at hSw)
               go_simp
               try with_reducible rfl
             try simp only [Act.put, List.setIfInBounds_toArray, List.set_cons_zero, List.set_cons_succ]
             refine wpAnyH_take (i := 23) (oi := { dst := some 2, op := Op.assign (Operand.tmp 71), type := 9, pos := "l7_mail.go:30", after := #[{ on := 22, ground := Ground.data }, { on := 21, ground := Ground.chain }, { on := 0, ground := Ground.phase }, { on := 1, ground := Ground.phase }, { on := 2, ground := Ground.phase }, { on := 3, ground := Ground.phase }, { on := 4, ground := Ground.phase }, { on := 5, ground := Ground.phase }, { on := 6, ground := Ground.phase }, { on := 7, ground := Ground.phase }, { on := 8, ground := Ground.phase }, { on := 9, ground := Ground.phase }, { on := 10, ground := Ground.phase }, { on := 11, ground := Ground.phase }, { on := 12, ground := Ground.phase }, { on := 13, ground := Ground.phase }, { on := 14, ground := Ground.phase }, { on := 15, ground := Ground.phase }, { on := 16, ground := Ground.phase }, { on := 17, ground := Ground.phase }, { on := 18, ground := Ground.phase }, { on := 19, ground := Ground.phase }, { on := 20, ground := Ground.phase }, { on := 21, ground := Ground.phase }, { on := 22, ground := Ground.phase }], guard := none }) (v := ?_) rfl (by kernel_rfl) (by kernel_rfl) (by kernel_rfl) (fun _ _ _ h => h) (Or.inl ⟨by rfl, ?_⟩) (by assumption) ?_
             rotate_left
             · intro wq hSw
               (try dsimp only at hSw)
               go_simp
               try with_reducible rfl
             try simp only [Act.put, List.setIfInBounds_toArray, List.set_cons_zero, List.set_cons_succ]
             refine wpAnyH_done (by kernel_rfl) ?_ _
             have hB7 : Below w.heap.size w w7 := hB6.trans (HB7.out.mono hB6.size)
             clear hHeld
             go_wp2
             go_ret
             exact ⟨⟨_, rfl, .inl ⟨HOK.out, HE.out⟩⟩, hB7⟩
end Go.Proofs.YtpjpckmfehfniaaGreatDoor.M
