import Derived.Test.YtdcgjdgpiogdaaaGreatDoorYP
import Derived.Test.YtdcgjdgpiogdaaaGreatDoorYA
namespace Go.Proofs.YtdcgjdgpiogdaaaGreatDoor
open Go.RowKit
def turnL (x : G16) : List UInt8 := [116, 117, 114, 110, 32] ++ turnW x
def hereL (x : G16) : List UInt8 := [104, 101, 114, 101, 32] ++ hereW x
/-- A text where something holds, none where not. -/
def IsT (P : Prop) (l : List UInt8) (e : Ending) : Prop := ∃ s, e = .returned (.string s) ∧ ((P ∧ s = ofL l) ∨ (¬ P ∧ s = ⟨#[]⟩))
theorem isT_no {P : Prop} {l : List UInt8} (h : ¬ P) : IsT P l (.returned (.string ⟨#[]⟩)) := ⟨_, rfl, .inr ⟨h, rfl⟩⟩
theorem sm59_here (x : G16) : Sm59 x.to x.fr x.ep x.ed x.km.nm x.km.tl x.km.ar x.ct x.tn.over x.tn.cd x.tn.tx x.tn.has x.tn.nm x.tn.st 0 x.fr 0 0 ⟨#[]⟩ ⟨#[]⟩ ⟨#[]⟩ 0 false 0 ⟨#[]⟩ false ⟨#[]⟩ 0 x.ls.length 0 ↔ BareH x := by
  unfold Sm59 BareH
  constructor
  · rintro ⟨h1, _, h2⟩
    exact ⟨h1, h2⟩
  · rintro ⟨h1, h2⟩
    exact ⟨h1, rfl, h2⟩
theorem sm59_turn (x : G16) : Sm59 x.to x.fr x.ep x.ed x.km.nm x.km.tl x.km.ar x.ct x.tn.over x.tn.cd x.tn.tx x.tn.has x.tn.nm x.tn.st 0 x.fr x.ep x.ed x.km.nm ⟨#[]⟩ ⟨#[]⟩ x.ct x.tn.over x.tn.cd x.tn.tx x.tn.has x.tn.nm x.tn.st x.ls.length 0 ↔ BareT x := by
  unfold Sm59 BareT
  constructor
  · rintro ⟨h1, _, _, _, _, h2, h3, h4, _⟩
    exact ⟨h1, h2, h3, h4⟩
  · rintro ⟨h1, h2, h3, h4⟩
    exact ⟨h1, rfl, rfl, rfl, rfl, h2, h3, h4, rfl, rfl, rfl, rfl, rfl, rfl, rfl⟩
theorem here_eq (x : G16) : (⟨#[104, 101, 114, 101, 32]⟩ : ByteArray) ++ ofL (dec x.fr) ++ ⟨#[10]⟩ = ofL (hereL x) := by
  show ofL [104, 101, 114, 101, 32] ++ ofL (dec x.fr) ++ ofL [10] = _
  rw [cat_ofL, cat_ofL]
  unfold hereL hereW
  simp only [List.append_assoc]
/-- The first line of a turn, as the specification puts it together. -/
def frstL (x : G16) : List UInt8 := [116, 117, 114, 110, 32] ++ dec x.fr ++ whenL x ++ [32] ++ dec x.ct ++ [32] ++ dec x.tn.st ++ [10]
theorem frstL_eq (x : G16) : (⟨#[116, 117, 114, 110, 32]⟩ : ByteArray) ++ ofL (dec x.fr) ++ ofL (whenL x) ++ ⟨#[32]⟩ ++ ofL (dec x.ct) ++ ⟨#[32]⟩ ++ ofL (dec x.tn.st) ++ ⟨#[10]⟩ = ofL (frstL x) := by
  show ofL [116, 117, 114, 110, 32] ++ ofL (dec x.fr) ++ ofL (whenL x) ++ ofL [32] ++ ofL (dec x.ct) ++ ofL [32] ++ ofL (dec x.tn.st) ++ ofL [10] = _
  rw [cat_ofL, cat_ofL, cat_ofL, cat_ofL, cat_ofL, cat_ofL, cat_ofL]; rfl
theorem frst_first (x : G16) : frstL x = [116, 117, 114, 110, 32] ++ firstL x := by
  unfold frstL firstL whenL num3 num2
  simp only [List.append_assoc]
theorem turn_over (x : G16) (h : x.tn.over = true) : ofL (frstL x) ++ ⟨#[111, 118, 101, 114, 32]⟩ ++ ofL (resL x.tn.cd x.tn.tx) ++ ⟨#[10]⟩ = ofL (turnL x) := by
  rw [over_eq]
  unfold turnL turnW
  rw [if_pos h, frst_first]
  simp only [List.append_assoc]
theorem turn_has (x : G16) (h : x.tn.over = false) (h2 : x.tn.has = true) : ofL (frstL x) ++ ⟨#[104, 97, 115, 32]⟩ ++ x.tn.nm ++ ⟨#[10]⟩ = ofL (turnL x) := by
  show ofL (frstL x) ++ ofL [104, 97, 115, 32] ++ ofL x.tn.nm.data.toList ++ ofL [10] = _
  rw [cat_ofL, cat_ofL, cat_ofL]
  unfold turnL turnW
  rw [h, frst_first, h2]
  simp [lookW]
theorem turn_ask (x : G16) (h : x.tn.over = false) (h2 : x.tn.has = false) : ofL (frstL x) ++ ⟨#[97, 115, 107, 32]⟩ ++ x.tn.nm ++ ⟨#[10]⟩ = ofL (turnL x) := by
  show ofL (frstL x) ++ ofL [97, 115, 107, 32] ++ ofL x.tn.nm.data.toList ++ ofL [10] = _
  rw [cat_ofL, cat_ofL, cat_ofL]
  unfold turnL turnW
  rw [h, frst_first, h2]
  simp [lookW]
set_option maxHeartbeats 16000000 in
set_option maxRecDepth 100000 in
theorem c27_3 (x : G16) (ai : Option Addr) (ci : Nat) (w : World) (hs : x.le 1048576) :
    Calls Tryz.prog 27 #[.agg #[.int .i64 3, .int .i64 x.to, .int .i64 x.fr, .int .i64 x.ep, .int .i64 x.ed, .string x.km.nm, .string x.km.tl, .string x.km.ar, .slice ai x.ls.length ci, .int .i64 x.ct, .bool x.tn.over, .int .i64 x.tn.cd, .string x.tn.tx, .bool x.tn.has, .string x.tn.nm, .int .i64 x.tn.st]] w fun e w' => IsT (HereOk x) (hereL x) e ∧ Below w.heap.size w w' := by
  obtain ⟨⟨s1, s1', s1''⟩, ⟨hl, s3⟩, s4⟩ := hs
  have hB0 : ∀ o, Below w.heap.size w (w.alloc o) := fun o => (Below.refl _ _).alloc (Nat.le_refl _) _
  clear s3
  cases h1 : decide (1 ≤ x.ep ∧ x.ep ≤ 200)
  ·
    go_enter Tryz.func27, Tryz.ntmps27
    go_wp2_with fail
    refine (c25 x.ep 1 200 _).mono ?_
    rintro e w0 ⟨rfl, hw⟩
    obtain rfl := hw.symm
    rw [h1]
    go_wp2_with fail
    refine (c59 3 x.to x.fr x.ep x.ed x.ct x.tn.cd x.tn.st x.km.nm x.km.tl x.km.ar x.tn.tx x.tn.nm x.tn.over x.tn.has 0 0 x.fr 0 0 0 0 0 ⟨#[]⟩ ⟨#[]⟩ ⟨#[]⟩ ⟨#[]⟩ ⟨#[]⟩ false false ai none x.ls.length 0 ci 0 _ hl (by omega)).mono ?_
    rintro e w1 ⟨⟨r, rfl, hr⟩, hb1⟩
    have HR : Hid (r = true ↔ BareH x) := hr.trans (sm59_here x)
    have hx1 : Below (w.heap.size + 1) (w.alloc (.cells #[.int .i64 3, .int .i64 x.to, .int .i64 x.fr, .int .i64 x.ep, .int .i64 x.ed, .string x.km.nm, .string x.km.tl, .string x.km.ar, .slice ai x.ls.length ci, .int .i64 x.ct, .bool x.tn.over, .int .i64 x.tn.cd, .string x.tn.tx, .bool x.tn.has, .string x.tn.nm, .int .i64 x.tn.st] 41)) w1 := by have h := hb1; simp at h; exact h
    have hB1 : Below w.heap.size w w1 := (hB0 _).trans (hx1.mono (by omega))
    have a2 : w1.cell? ⟨w.heap.size, 2, none⟩ = some (.int .i64 x.fr) := (hx1.cell (p := ⟨w.heap.size, 2, none⟩) (by show w.heap.size < w.heap.size + 1; omega)).trans (by simp [go_sem])
    clear hr hb1 hx1
    cases r
    · have HN : Hid (IsT (HereOk x) (hereL x) (.returned (.string ⟨#[]⟩))) := isT_no (fun h => absurd (HR.out.2 h.1) Bool.false_ne_true)
      go_wp2
      go_ret
      exact ⟨HN.out, hB1⟩
    · go_wp2_with fail
      refine (c25 x.fr 1 4 _).mono ?_
      rintro e w0 ⟨rfl, hw⟩
      obtain rfl := hw.symm
      cases h3 : decide (1 ≤ x.fr ∧ x.fr ≤ 4)
      · have HN : Hid (IsT (HereOk x) (hereL x) (.returned (.string ⟨#[]⟩))) := isT_no (fun h => of_decide_eq_false h3 h.2)
        go_wp2
        go_ret
        exact ⟨HN.out, hB1⟩
      · have q3 := of_decide_eq_true h3
        have z1 := dec_size x.fr (by omega) (by omega)
        have k0 : ¬ 9223372036854775807 < 5 + (ofL (dec x.fr)).size := by omega
        have k1 : ¬ 9223372036854775807 < 5 + (ofL (dec x.fr)).size + 1 := by omega
        have k1' : ¬ 9223372036854775807 ≤ 5 + (ofL (dec x.fr)).size := by omega
        have HE : Hid ((⟨#[104, 101, 114, 101, 32]⟩ : ByteArray) ++ ofL (dec x.fr) ++ ⟨#[10]⟩ = ofL (hereL x)) := here_eq x
        have HOK : Hid (HereOk x) := ⟨HR.out.1 (by first | rfl | trivial), q3⟩
        go_wp2_with fail
        refine (c62 (x.fr.toNat + 1) x.fr _ (by omega) (by omega) (Nat.lt_succ_self _)).mono ?_
        rintro e w4 ⟨rfl, hb4⟩
        have HB4 : Hid (Below w.heap.size w w4) := hB1.trans (hb4.mono hB1.size)
        clear hb4
        go_wp2
        go_ret
        exact ⟨⟨_, rfl, .inl ⟨HOK.out, HE.out⟩⟩, HB4.out⟩
  · 
    go_enter Tryz.func27, Tryz.ntmps27
    go_wp2_with fail
    refine (c25 x.ep 1 200 _).mono ?_
    rintro e w0 ⟨rfl, hw⟩
    obtain rfl := hw.symm
    rw [h1]
    go_wp2_with fail
    refine (c25 x.ed 0 1000 _).mono ?_
    rintro e w0 ⟨rfl, hw⟩
    obtain rfl := hw.symm
    cases h2 : decide (0 ≤ x.ed ∧ x.ed ≤ 1000)
    · go_wp2_with fail
      refine (c59 3 x.to x.fr x.ep x.ed x.ct x.tn.cd x.tn.st x.km.nm x.km.tl x.km.ar x.tn.tx x.tn.nm x.tn.over x.tn.has 0 0 x.fr 0 0 0 0 0 ⟨#[]⟩ ⟨#[]⟩ ⟨#[]⟩ ⟨#[]⟩ ⟨#[]⟩ false false ai none x.ls.length 0 ci 0 _ hl (by omega)).mono ?_
      rintro e w1 ⟨⟨r, rfl, hr⟩, hb1⟩
      have HR : Hid (r = true ↔ BareH x) := hr.trans (sm59_here x)
      have hx1 : Below (w.heap.size + 1) (w.alloc (.cells #[.int .i64 3, .int .i64 x.to, .int .i64 x.fr, .int .i64 x.ep, .int .i64 x.ed, .string x.km.nm, .string x.km.tl, .string x.km.ar, .slice ai x.ls.length ci, .int .i64 x.ct, .bool x.tn.over, .int .i64 x.tn.cd, .string x.tn.tx, .bool x.tn.has, .string x.tn.nm, .int .i64 x.tn.st] 41)) w1 := by have h := hb1; simp at h; exact h
      have hB1 : Below w.heap.size w w1 := (hB0 _).trans (hx1.mono (by omega))
      have a2 : w1.cell? ⟨w.heap.size, 2, none⟩ = some (.int .i64 x.fr) := (hx1.cell (p := ⟨w.heap.size, 2, none⟩) (by show w.heap.size < w.heap.size + 1; omega)).trans (by simp [go_sem])
      clear hr hb1 hx1
      cases r
      · have HN : Hid (IsT (HereOk x) (hereL x) (.returned (.string ⟨#[]⟩))) := isT_no (fun h => absurd (HR.out.2 h.1) Bool.false_ne_true)
        go_wp2
        go_ret
        exact ⟨HN.out, hB1⟩
      · go_wp2_with fail
        refine (c25 x.fr 1 4 _).mono ?_
        rintro e w0 ⟨rfl, hw⟩
        obtain rfl := hw.symm
        cases h3 : decide (1 ≤ x.fr ∧ x.fr ≤ 4)
        · have HN : Hid (IsT (HereOk x) (hereL x) (.returned (.string ⟨#[]⟩))) := isT_no (fun h => of_decide_eq_false h3 h.2)
          go_wp2
          go_ret
          exact ⟨HN.out, hB1⟩
        · have q3 := of_decide_eq_true h3
          have z1 := dec_size x.fr (by omega) (by omega)
          have k0 : ¬ 9223372036854775807 < 5 + (ofL (dec x.fr)).size := by omega
          have k1 : ¬ 9223372036854775807 < 5 + (ofL (dec x.fr)).size + 1 := by omega
          have k1' : ¬ 9223372036854775807 ≤ 5 + (ofL (dec x.fr)).size := by omega
          have HE : Hid ((⟨#[104, 101, 114, 101, 32]⟩ : ByteArray) ++ ofL (dec x.fr) ++ ⟨#[10]⟩ = ofL (hereL x)) := here_eq x
          have HOK : Hid (HereOk x) := ⟨HR.out.1 (by first | rfl | trivial), q3⟩
          go_wp2_with fail
          refine (c62 (x.fr.toNat + 1) x.fr _ (by omega) (by omega) (Nat.lt_succ_self _)).mono ?_
          rintro e w4 ⟨rfl, hb4⟩
          have HB4 : Hid (Below w.heap.size w w4) := hB1.trans (hb4.mono hB1.size)
          clear hb4
          go_wp2
          go_ret
          exact ⟨⟨_, rfl, .inl ⟨HOK.out, HE.out⟩⟩, HB4.out⟩
    · go_wp2_with fail
      refine (c59 3 x.to x.fr x.ep x.ed x.ct x.tn.cd x.tn.st x.km.nm x.km.tl x.km.ar x.tn.tx x.tn.nm x.tn.over x.tn.has 0 0 x.fr 0 0 0 0 0 ⟨#[]⟩ ⟨#[]⟩ ⟨#[]⟩ ⟨#[]⟩ ⟨#[]⟩ false false ai none x.ls.length 0 ci 0 _ hl (by omega)).mono ?_
      rintro e w1 ⟨⟨r, rfl, hr⟩, hb1⟩
      have HR : Hid (r = true ↔ BareH x) := hr.trans (sm59_here x)
      have hx1 : Below (w.heap.size + 1) (w.alloc (.cells #[.int .i64 3, .int .i64 x.to, .int .i64 x.fr, .int .i64 x.ep, .int .i64 x.ed, .string x.km.nm, .string x.km.tl, .string x.km.ar, .slice ai x.ls.length ci, .int .i64 x.ct, .bool x.tn.over, .int .i64 x.tn.cd, .string x.tn.tx, .bool x.tn.has, .string x.tn.nm, .int .i64 x.tn.st] 41)) w1 := by have h := hb1; simp at h; exact h
      have hB1 : Below w.heap.size w w1 := (hB0 _).trans (hx1.mono (by omega))
      have a2 : w1.cell? ⟨w.heap.size, 2, none⟩ = some (.int .i64 x.fr) := (hx1.cell (p := ⟨w.heap.size, 2, none⟩) (by show w.heap.size < w.heap.size + 1; omega)).trans (by simp [go_sem])
      clear hr hb1 hx1
      cases r
      · have HN : Hid (IsT (HereOk x) (hereL x) (.returned (.string ⟨#[]⟩))) := isT_no (fun h => absurd (HR.out.2 h.1) Bool.false_ne_true)
        go_wp2
        go_ret
        exact ⟨HN.out, hB1⟩
      · go_wp2_with fail
        refine (c25 x.fr 1 4 _).mono ?_
        rintro e w0 ⟨rfl, hw⟩
        obtain rfl := hw.symm
        cases h3 : decide (1 ≤ x.fr ∧ x.fr ≤ 4)
        · have HN : Hid (IsT (HereOk x) (hereL x) (.returned (.string ⟨#[]⟩))) := isT_no (fun h => of_decide_eq_false h3 h.2)
          go_wp2
          go_ret
          exact ⟨HN.out, hB1⟩
        · have q3 := of_decide_eq_true h3
          have z1 := dec_size x.fr (by omega) (by omega)
          have k0 : ¬ 9223372036854775807 < 5 + (ofL (dec x.fr)).size := by omega
          have k1 : ¬ 9223372036854775807 < 5 + (ofL (dec x.fr)).size + 1 := by omega
          have k1' : ¬ 9223372036854775807 ≤ 5 + (ofL (dec x.fr)).size := by omega
          have HE : Hid ((⟨#[104, 101, 114, 101, 32]⟩ : ByteArray) ++ ofL (dec x.fr) ++ ⟨#[10]⟩ = ofL (hereL x)) := here_eq x
          have HOK : Hid (HereOk x) := ⟨HR.out.1 (by first | rfl | trivial), q3⟩
          go_wp2_with fail
          refine (c62 (x.fr.toNat + 1) x.fr _ (by omega) (by omega) (Nat.lt_succ_self _)).mono ?_
          rintro e w4 ⟨rfl, hb4⟩
          have HB4 : Hid (Below w.heap.size w w4) := hB1.trans (hb4.mono hB1.size)
          clear hb4
          go_wp2
          go_ret
          exact ⟨⟨_, rfl, .inl ⟨HOK.out, HE.out⟩⟩, HB4.out⟩
set_option maxHeartbeats 16000000 in
set_option maxRecDepth 100000 in
theorem c27_no (x : G16) (ai : Option Addr) (ci : Nat) (w : World) (n1 : ¬ x.kd = 1) (n2 : ¬ x.kd = 2) (n3 : ¬ x.kd = 3) :
    Calls Tryz.prog 27 #[.agg #[.int .i64 x.kd, .int .i64 x.to, .int .i64 x.fr, .int .i64 x.ep, .int .i64 x.ed, .string x.km.nm, .string x.km.tl, .string x.km.ar, .slice ai x.ls.length ci, .int .i64 x.ct, .bool x.tn.over, .int .i64 x.tn.cd, .string x.tn.tx, .bool x.tn.has, .string x.tn.nm, .int .i64 x.tn.st]] w fun e w' => e = .returned (.string ⟨#[]⟩) ∧ Below w.heap.size w w' := by
  have hB0 : ∀ o, Below w.heap.size w (w.alloc o) := fun o => (Below.refl _ _).alloc (Nat.le_refl _) _
  cases h1 : decide (1 ≤ x.ep ∧ x.ep ≤ 200)
  ·
    go_enter Tryz.func27, Tryz.ntmps27
    go_wp2_with fail
    refine (c25 x.ep 1 200 _).mono ?_
    rintro e w0 ⟨rfl, hw⟩
    obtain rfl := hw.symm
    rw [h1]
    go_wp2
    go_ret
    exact ⟨rfl, hB0 _⟩
  · 
    go_enter Tryz.func27, Tryz.ntmps27
    go_wp2_with fail
    refine (c25 x.ep 1 200 _).mono ?_
    rintro e w0 ⟨rfl, hw⟩
    obtain rfl := hw.symm
    rw [h1]
    go_wp2_with fail
    refine (c25 x.ed 0 1000 _).mono ?_
    rintro e w0 ⟨rfl, hw⟩
    obtain rfl := hw.symm
    go_wp2
    go_ret
    exact ⟨rfl, hB0 _⟩
theorem tn_code {ov hs : Bool} {cd st : Int} {tx nm : ByteArray} (ho : ov = true) (h : TnOk ov cd tx hs nm st) : 0 ≤ cd ∧ cd ≤ 7 := by
  obtain ⟨_, ⟨_, h, _⟩ | ⟨h, _⟩⟩ := h
  · exact vr_code h
  · rw [ho] at h; exact absurd h (by decide)
set_option maxHeartbeats 16000000 in
set_option maxRecDepth 100000 in
theorem c27_2 (x : G16) (ai : Option Addr) (ci : Nat) (w : World) (hs : x.le 1048576) :
    Calls Tryz.prog 27 #[.agg #[.int .i64 2, .int .i64 x.to, .int .i64 x.fr, .int .i64 x.ep, .int .i64 x.ed, .string x.km.nm, .string x.km.tl, .string x.km.ar, .slice ai x.ls.length ci, .int .i64 x.ct, .bool x.tn.over, .int .i64 x.tn.cd, .string x.tn.tx, .bool x.tn.has, .string x.tn.nm, .int .i64 x.tn.st]] w fun e w' => IsT (TurnOkM x) (turnL x) e ∧ Below w.heap.size w w' := by
  obtain ⟨⟨s1, s1', s1''⟩, ⟨hl, s3⟩, s4⟩ := hs
  have hB0 : ∀ o p, Below w.heap.size w ((w.alloc o).alloc p) := fun o p => ((Below.refl _ _).alloc (Nat.le_refl _) _).alloc (by simp) _
  have HM : Hid (momOk x.ep x.ed = (decide (1 ≤ x.ep ∧ x.ep ≤ 200) && decide (0 ≤ x.ed ∧ x.ed ≤ 1000))) := rfl
  clear s3
  cases h1 : decide (1 ≤ x.ep ∧ x.ep ≤ 200)
  · have HF : Hid (momOk x.ep x.ed = false) := by rw [HM.out, h1]; rfl
    go_enter Tryz.func27, Tryz.ntmps27
    go_wp2_with fail
    refine (c25 x.ep 1 200 _).mono ?_
    rintro e w0 ⟨rfl, hw⟩
    obtain rfl := hw.symm
    rw [h1]
    go_wp2_with fail
    refine (c59 2 x.to x.fr x.ep x.ed x.ct x.tn.cd x.tn.st x.km.nm x.km.tl x.km.ar x.tn.tx x.tn.nm x.tn.over x.tn.has 0 0 x.fr x.ep x.ed x.ct x.tn.cd x.tn.st x.km.nm ⟨#[]⟩ ⟨#[]⟩ x.tn.tx x.tn.nm x.tn.over x.tn.has ai none x.ls.length 0 ci 0 _ hl (by omega)).mono ?_
    rintro e w1 ⟨⟨r, rfl, hr⟩, hb1⟩
    have HR : Hid (r = true ↔ BareT x) := hr.trans (sm59_turn x)
    have hx1 : Below (w.heap.size + 2) ((w.alloc (.cells #[.int .i64 2, .int .i64 x.to, .int .i64 x.fr, .int .i64 x.ep, .int .i64 x.ed, .string x.km.nm, .string x.km.tl, .string x.km.ar, .slice ai x.ls.length ci, .int .i64 x.ct, .bool x.tn.over, .int .i64 x.tn.cd, .string x.tn.tx, .bool x.tn.has, .string x.tn.nm, .int .i64 x.tn.st] 41)).alloc (.cells #[.int .i64 0, .int .i64 0, .int .i64 x.fr, .int .i64 x.ep, .int .i64 x.ed, .string x.km.nm, .string ⟨#[]⟩, .string ⟨#[]⟩, .slice none 0 0, .int .i64 x.ct, .bool x.tn.over, .int .i64 x.tn.cd, .string x.tn.tx, .bool x.tn.has, .string x.tn.nm, .int .i64 x.tn.st] 41)) w1 := by have h := hb1; simp at h; exact h
    have hB1 : Below w.heap.size w w1 := (hB0 _ _).trans (hx1.mono (by omega))
    have hz1 : w.heap.size < w1.heap.size := by have := hx1.size; simp at this; omega
    have ZA : BlkAt w1 w.heap.size [.int .i64 2, .int .i64 x.to, .int .i64 x.fr, .int .i64 x.ep, .int .i64 x.ed, .string x.km.nm, .string x.km.tl, .string x.km.ar, .slice ai x.ls.length ci, .int .i64 x.ct, .bool x.tn.over, .int .i64 x.tn.cd, .string x.tn.tx, .bool x.tn.has, .string x.tn.nm, .int .i64 x.tn.st] := fun j v h => (hx1.cell (p := ⟨w.heap.size, j, none⟩) (by show w.heap.size < w.heap.size + 2; omega)).trans (by simp [go_sem, h])
    clear hr hb1 hx1
    cases r
    · have HN : Hid (IsT (TurnOkM x) (turnL x) (.returned (.string ⟨#[]⟩))) := isT_no (fun h => absurd (HF.out.symm.trans h.2.2.1) (by decide))
      go_wp2
      go_ret
      exact ⟨HN.out, hB1⟩
    · have HN : Hid (IsT (TurnOkM x) (turnL x) (.returned (.string ⟨#[]⟩))) := isT_no (fun h => absurd (HF.out.symm.trans h.2.2.1) (by decide))
      go_wp2
      go_ret
      exact ⟨HN.out, hB1⟩
  · cases h2 : decide (0 ≤ x.ed ∧ x.ed ≤ 1000)
    · have HF : Hid (momOk x.ep x.ed = false) := by rw [HM.out, h1, h2]; rfl
      go_enter Tryz.func27, Tryz.ntmps27
      go_wp2_with fail
      refine (c25 x.ep 1 200 _).mono ?_
      rintro e w0 ⟨rfl, hw⟩
      obtain rfl := hw.symm
      rw [h1]
      go_wp2_with fail
      refine (c25 x.ed 0 1000 _).mono ?_
      rintro e w0 ⟨rfl, hw⟩
      obtain rfl := hw.symm
      rw [h2]
      go_wp2_with fail
      refine (c59 2 x.to x.fr x.ep x.ed x.ct x.tn.cd x.tn.st x.km.nm x.km.tl x.km.ar x.tn.tx x.tn.nm x.tn.over x.tn.has 0 0 x.fr x.ep x.ed x.ct x.tn.cd x.tn.st x.km.nm ⟨#[]⟩ ⟨#[]⟩ x.tn.tx x.tn.nm x.tn.over x.tn.has ai none x.ls.length 0 ci 0 _ hl (by omega)).mono ?_
      rintro e w1 ⟨⟨r, rfl, hr⟩, hb1⟩
      have HR : Hid (r = true ↔ BareT x) := hr.trans (sm59_turn x)
      have hx1 : Below (w.heap.size + 2) ((w.alloc (.cells #[.int .i64 2, .int .i64 x.to, .int .i64 x.fr, .int .i64 x.ep, .int .i64 x.ed, .string x.km.nm, .string x.km.tl, .string x.km.ar, .slice ai x.ls.length ci, .int .i64 x.ct, .bool x.tn.over, .int .i64 x.tn.cd, .string x.tn.tx, .bool x.tn.has, .string x.tn.nm, .int .i64 x.tn.st] 41)).alloc (.cells #[.int .i64 0, .int .i64 0, .int .i64 x.fr, .int .i64 x.ep, .int .i64 x.ed, .string x.km.nm, .string ⟨#[]⟩, .string ⟨#[]⟩, .slice none 0 0, .int .i64 x.ct, .bool x.tn.over, .int .i64 x.tn.cd, .string x.tn.tx, .bool x.tn.has, .string x.tn.nm, .int .i64 x.tn.st] 41)) w1 := by have h := hb1; simp at h; exact h
      have hB1 : Below w.heap.size w w1 := (hB0 _ _).trans (hx1.mono (by omega))
      have hz1 : w.heap.size < w1.heap.size := by have := hx1.size; simp at this; omega
      have ZA : BlkAt w1 w.heap.size [.int .i64 2, .int .i64 x.to, .int .i64 x.fr, .int .i64 x.ep, .int .i64 x.ed, .string x.km.nm, .string x.km.tl, .string x.km.ar, .slice ai x.ls.length ci, .int .i64 x.ct, .bool x.tn.over, .int .i64 x.tn.cd, .string x.tn.tx, .bool x.tn.has, .string x.tn.nm, .int .i64 x.tn.st] := fun j v h => (hx1.cell (p := ⟨w.heap.size, j, none⟩) (by show w.heap.size < w.heap.size + 2; omega)).trans (by simp [go_sem, h])
      clear hr hb1 hx1
      cases r
      · have HN : Hid (IsT (TurnOkM x) (turnL x) (.returned (.string ⟨#[]⟩))) := isT_no (fun h => absurd (HF.out.symm.trans h.2.2.1) (by decide))
        go_wp2
        go_ret
        exact ⟨HN.out, hB1⟩
      · have HN : Hid (IsT (TurnOkM x) (turnL x) (.returned (.string ⟨#[]⟩))) := isT_no (fun h => absurd (HF.out.symm.trans h.2.2.1) (by decide))
        go_wp2
        go_ret
        exact ⟨HN.out, hB1⟩
    · have HF : Hid (momOk x.ep x.ed = true) := by rw [HM.out, h1, h2]; rfl
      have q1 := of_decide_eq_true h1
      have q2 := of_decide_eq_true h2
      go_enter Tryz.func27, Tryz.ntmps27
      go_wp2_with fail
      refine (c25 x.ep 1 200 _).mono ?_
      rintro e w0 ⟨rfl, hw⟩
      obtain rfl := hw.symm
      rw [h1]
      go_wp2_with fail
      refine (c25 x.ed 0 1000 _).mono ?_
      rintro e w0 ⟨rfl, hw⟩
      obtain rfl := hw.symm
      rw [h2]
      go_wp2_with fail
      refine (c59 2 x.to x.fr x.ep x.ed x.ct x.tn.cd x.tn.st x.km.nm x.km.tl x.km.ar x.tn.tx x.tn.nm x.tn.over x.tn.has 0 0 x.fr x.ep x.ed x.ct x.tn.cd x.tn.st x.km.nm ⟨#[]⟩ ⟨#[]⟩ x.tn.tx x.tn.nm x.tn.over x.tn.has ai none x.ls.length 0 ci 0 _ hl (by omega)).mono ?_
      rintro e w1 ⟨⟨r, rfl, hr⟩, hb1⟩
      have HR : Hid (r = true ↔ BareT x) := hr.trans (sm59_turn x)
      have hx1 : Below (w.heap.size + 2) ((w.alloc (.cells #[.int .i64 2, .int .i64 x.to, .int .i64 x.fr, .int .i64 x.ep, .int .i64 x.ed, .string x.km.nm, .string x.km.tl, .string x.km.ar, .slice ai x.ls.length ci, .int .i64 x.ct, .bool x.tn.over, .int .i64 x.tn.cd, .string x.tn.tx, .bool x.tn.has, .string x.tn.nm, .int .i64 x.tn.st] 41)).alloc (.cells #[.int .i64 0, .int .i64 0, .int .i64 x.fr, .int .i64 x.ep, .int .i64 x.ed, .string x.km.nm, .string ⟨#[]⟩, .string ⟨#[]⟩, .slice none 0 0, .int .i64 x.ct, .bool x.tn.over, .int .i64 x.tn.cd, .string x.tn.tx, .bool x.tn.has, .string x.tn.nm, .int .i64 x.tn.st] 41)) w1 := by have h := hb1; simp at h; exact h
      have hB1 : Below w.heap.size w w1 := (hB0 _ _).trans (hx1.mono (by omega))
      have hz1 : w.heap.size < w1.heap.size := by have := hx1.size; simp at this; omega
      have ZA : BlkAt w1 w.heap.size [.int .i64 2, .int .i64 x.to, .int .i64 x.fr, .int .i64 x.ep, .int .i64 x.ed, .string x.km.nm, .string x.km.tl, .string x.km.ar, .slice ai x.ls.length ci, .int .i64 x.ct, .bool x.tn.over, .int .i64 x.tn.cd, .string x.tn.tx, .bool x.tn.has, .string x.tn.nm, .int .i64 x.tn.st] := fun j v h => (hx1.cell (p := ⟨w.heap.size, j, none⟩) (by show w.heap.size < w.heap.size + 2; omega)).trans (by simp [go_sem, h])
      clear hr hb1 hx1
      have a2 := ZA 2 _ rfl
      have a5 := ZA 5 _ rfl
      have a9 := ZA 9 _ rfl
      have a10 := ZA 10 _ rfl
      have a11 := ZA 11 _ rfl
      have a12 := ZA 12 _ rfl
      have a13 := ZA 13 _ rfl
      have a14 := ZA 14 _ rfl
      have a15 := ZA 15 _ rfl
      cases r
      · have HN : Hid (IsT (TurnOkM x) (turnL x) (.returned (.string ⟨#[]⟩))) := isT_no (fun h => absurd (HR.out.2 h.1) Bool.false_ne_true)
        go_wp2
        go_ret
        exact ⟨HN.out, hB1⟩
      · go_wp2_with fail
        refine (c25 x.fr 1 4 _).mono ?_
        rintro e w0 ⟨rfl, hw⟩
        obtain rfl := hw.symm
        cases h3 : decide (1 ≤ x.fr ∧ x.fr ≤ 4)
        · have HN : Hid (IsT (TurnOkM x) (turnL x) (.returned (.string ⟨#[]⟩))) := isT_no (fun h => of_decide_eq_false h3 h.2.1)
          go_wp2
          go_ret
          exact ⟨HN.out, hB1⟩
        · have q3 := of_decide_eq_true h3
          go_wp2_with fail
          refine (c66 x.km.nm _ (by omega)).mono ?_
          rintro e w0 ⟨rfl, hw⟩
          obtain rfl := hw.symm
          cases h4 : nameOk x.km.nm.data.toList
          · have HN : Hid (IsT (TurnOkM x) (turnL x) (.returned (.string ⟨#[]⟩))) := isT_no (fun h => absurd (h4.symm.trans h.2.2.2.1) (by decide))
            go_wp2
            go_ret
            exact ⟨HN.out, hB1⟩
          · go_wp2_with fail
            refine (c25 x.ct 0 15 _).mono ?_
            rintro e w0 ⟨rfl, hw⟩
            obtain rfl := hw.symm
            cases h5 : decide (0 ≤ x.ct ∧ x.ct ≤ 15)
            · have HN : Hid (IsT (TurnOkM x) (turnL x) (.returned (.string ⟨#[]⟩))) := isT_no (fun h => of_decide_eq_false h5 h.2.2.2.2.1)
              go_wp2
              go_ret
              exact ⟨HN.out, hB1⟩
            · have q5 := of_decide_eq_true h5
              go_wp2_with fail
              refine (c67 x.tn.over x.tn.has x.tn.cd x.tn.st x.tn.tx x.tn.nm w1 (by have := s4.1; omega) (by have := s4.2; omega)).mono ?_
              rintro e w2 ⟨⟨r, rfl, hr⟩, hb2⟩
              have hB2 : Below w.heap.size w w2 := hB1.trans (hb2.mono hB1.size)
              have hz2 : w.heap.size < w2.heap.size := Nat.lt_of_lt_of_le hz1 hb2.size
              have ZB := ZA.below hb2 hz1
              clear hb2 a2 a5 a9 a10 a11 a12 a13 a14 a15 ZA
              cases r
              · have HN : Hid (IsT (TurnOkM x) (turnL x) (.returned (.string ⟨#[]⟩))) := isT_no (fun h => absurd (hr.2 h.2.2.2.2.2) Bool.false_ne_true)
                go_wp2
                go_ret
                exact ⟨HN.out, hB2⟩
              · have HOK : Hid (TurnOkM x) := ⟨HR.out.1 (by first | rfl | trivial), q3, HF.out, h4, q5, hr.1 rfl⟩
                have q6 := HOK.out.2.2.2.2.2.1
                obtain ⟨s41, s42⟩ := s4
                have a0 := ZB 0 _ rfl
                have a1 := ZB 1 _ rfl
                have a2 := ZB 2 _ rfl
                have a3 := ZB 3 _ rfl
                have a4 := ZB 4 _ rfl
                have a5 := ZB 5 _ rfl
                have a6 := ZB 6 _ rfl
                have a7 := ZB 7 _ rfl
                have a8 := ZB 8 _ rfl
                have a9 := ZB 9 _ rfl
                have a10 := ZB 10 _ rfl
                have a11 := ZB 11 _ rfl
                have a12 := ZB 12 _ rfl
                have a13 := ZB 13 _ rfl
                have a14 := ZB 14 _ rfl
                have a15 := ZB 15 _ rfl
                clear hr ZB
                have z1 := dec_size x.fr (by omega) (by omega)
                have z2 := when_size x (by omega) (by omega) (by omega) (by omega)
                have z3 := dec_size x.ct (by omega) (by omega)
                have z4 := dec_size x.tn.st (by omega) (by omega)
                have k0 : ¬ 9223372036854775807 < 5 + (ofL (dec x.fr)).size := by omega
                have k1 : ¬ 9223372036854775807 < 5 + (ofL (dec x.fr)).size + (ofL (whenL x)).size := by omega
                have k2' : ¬ 9223372036854775807 ≤ 5 + (ofL (dec x.fr)).size + (ofL (whenL x)).size := by omega
                have k2 : ¬ 9223372036854775807 < 5 + (ofL (dec x.fr)).size + (ofL (whenL x)).size + 1 := by omega
                have k3 : ¬ 9223372036854775807 < 5 + (ofL (dec x.fr)).size + (ofL (whenL x)).size + 1 + (ofL (dec x.ct)).size := by omega
                have k4' : ¬ 9223372036854775807 ≤ 5 + (ofL (dec x.fr)).size + (ofL (whenL x)).size + 1 + (ofL (dec x.ct)).size := by omega
                have k4 : ¬ 9223372036854775807 < 5 + (ofL (dec x.fr)).size + (ofL (whenL x)).size + 1 + (ofL (dec x.ct)).size + 1 := by omega
                have k5 : ¬ 9223372036854775807 < 5 + (ofL (dec x.fr)).size + (ofL (whenL x)).size + 1 + (ofL (dec x.ct)).size + 1 + (ofL (dec x.tn.st)).size := by omega
                have k6' : ¬ 9223372036854775807 ≤ 5 + (ofL (dec x.fr)).size + (ofL (whenL x)).size + 1 + (ofL (dec x.ct)).size + 1 + (ofL (dec x.tn.st)).size := by omega
                have k6 : ¬ 9223372036854775807 < 5 + (ofL (dec x.fr)).size + (ofL (whenL x)).size + 1 + (ofL (dec x.ct)).size + 1 + (ofL (dec x.tn.st)).size + 1 := by omega
                have HE : Hid ((⟨#[116, 117, 114, 110, 32]⟩ : ByteArray) ++ ofL (dec x.fr) ++ ofL (whenL x) ++ ⟨#[32]⟩ ++ ofL (dec x.ct) ++ ⟨#[32]⟩ ++ ofL (dec x.tn.st) ++ ⟨#[10]⟩ = ofL (frstL x)) := frstL_eq x
                have zf : (ofL (frstL x)).size ≤ 1000000000 := by
                  rw [← HE.out]
                  have e32 : (⟨#[32]⟩ : ByteArray).size = 1 := rfl
                  have e10 : (⟨#[10]⟩ : ByteArray).size = 1 := rfl
                  have e5 : (⟨#[116, 117, 114, 110, 32]⟩ : ByteArray).size = 5 := rfl
                  simp only [ByteArray.size_append]; omega
                have h63 : ∀ u, Calls Tryz.prog 63 #[.agg #[.int .i64 2, .int .i64 x.to, .int .i64 x.fr, .int .i64 x.ep, .int .i64 x.ed, .string x.km.nm, .string x.km.tl, .string x.km.ar, .slice ai x.ls.length ci, .int .i64 x.ct, .bool x.tn.over, .int .i64 x.tn.cd, .string x.tn.tx, .bool x.tn.has, .string x.tn.nm, .int .i64 x.tn.st]] u fun e w' => e = .returned (.string (ofL (whenL x))) ∧ Below u.heap.size u w' := fun u => c63 ⟨2, x.to, x.fr, x.ep, x.ed, x.km, x.ls, x.ct, x.tn⟩ ai ci u (by show 0 ≤ x.ep; omega) (by show x.ep ≤ 1000; omega) (by show 0 ≤ x.ed; omega) (by show x.ed ≤ 1000; omega) (by show x.km.nm.size ≤ 1048600; omega)
                go_wp2_with fail
                refine wp_region_held_drew (S := (fun u => u.cell? ⟨w.heap.size, 0, none⟩ = some (.int .i64 2) ∧ u.cell? ⟨w.heap.size, 1, none⟩ = some (.int .i64 x.to) ∧ u.cell? ⟨w.heap.size, 2, none⟩ = some (.int .i64 x.fr) ∧ u.cell? ⟨w.heap.size, 3, none⟩ = some (.int .i64 x.ep) ∧ u.cell? ⟨w.heap.size, 4, none⟩ = some (.int .i64 x.ed) ∧ u.cell? ⟨w.heap.size, 5, none⟩ = some (.string x.km.nm) ∧ u.cell? ⟨w.heap.size, 6, none⟩ = some (.string x.km.tl) ∧ u.cell? ⟨w.heap.size, 7, none⟩ = some (.string x.km.ar) ∧ u.cell? ⟨w.heap.size, 8, none⟩ = some (.slice ai x.ls.length ci) ∧ u.cell? ⟨w.heap.size, 9, none⟩ = some (.int .i64 x.ct) ∧ u.cell? ⟨w.heap.size, 10, none⟩ = some (.bool x.tn.over) ∧ u.cell? ⟨w.heap.size, 11, none⟩ = some (.int .i64 x.tn.cd) ∧ u.cell? ⟨w.heap.size, 12, none⟩ = some (.string x.tn.tx) ∧ u.cell? ⟨w.heap.size, 13, none⟩ = some (.bool x.tn.has) ∧ u.cell? ⟨w.heap.size, 14, none⟩ = some (.string x.tn.nm) ∧ u.cell? ⟨w.heap.size, 15, none⟩ = some (.int .i64 x.tn.st))) (by kernel_rfl) ?_ (fun hHeld => ?_)
                · ((try dsimp only); go_keep)
                refine wpAnyH_take (i := 0) (oi := { dst := some 122, op := Op.fieldAddr 41 (Operand.tmp 1) 2, type := 0, pos := "l7_mail.go:37", after := #[], guard := none }) (v := ?_) rfl (by kernel_rfl) (by kernel_rfl) (by kernel_rfl) (fun _ _ _ h => h) (Or.inl ⟨by rfl, ?_⟩) (by assumption) ?_
                rotate_left
                · intro wq hSw
                  (try dsimp only at hSw)
                  go_simp
                  try with_reducible rfl
                try simp only [Act.put, List.setIfInBounds_toArray, List.set_cons_zero, List.set_cons_succ]
                refine wpAnyH_take (i := 1) (oi := { dst := some 123, op := Op.load 3 (Operand.tmp 122), type := 3, pos := "l7_mail.go:37", after := #[{ on := 0, ground := Ground.data }], guard := none }) (v := ?_) rfl (by kernel_rfl) (by kernel_rfl) (by kernel_rfl) (fun _ _ _ h => h) (Or.inl ⟨by rfl, ?_⟩) (by assumption) ?_
                rotate_left
                · intro wq hSw
                  (try dsimp only at hSw)
                  go_simp
                  try with_reducible rfl
                try simp only [Act.put, List.setIfInBounds_toArray, List.set_cons_zero, List.set_cons_succ]
                refine wpAnyH_take (i := 4) (oi := { dst := some 126, op := Op.load 41 (Operand.tmp 1), type := 41, pos := "l7_mail.go:37", after := #[], guard := none }) (v := ?_) rfl (by kernel_rfl) (by kernel_rfl) (by kernel_rfl) (fun _ _ _ h => h) (Or.inl ⟨by rfl, ?_⟩) (by assumption) ?_
                rotate_left
                · intro wq hSw
                  (try dsimp only at hSw)
                  go_simp
                  try with_reducible rfl
                try simp only [Act.put, List.setIfInBounds_toArray, List.set_cons_zero, List.set_cons_succ]
                refine wpAnyH_take (i := 8) (oi := { dst := some 130, op := Op.fieldAddr 41 (Operand.tmp 1) 7, type := 0, pos := "l7_mail.go:37", after := #[], guard := none }) (v := ?_) rfl (by kernel_rfl) (by kernel_rfl) (by kernel_rfl) (fun _ _ _ h => h) (Or.inl ⟨by rfl, ?_⟩) (by assumption) ?_
                rotate_left
                · intro wq hSw
                  (try dsimp only at hSw)
                  go_simp
                  try with_reducible rfl
                try simp only [Act.put, List.setIfInBounds_toArray, List.set_cons_zero, List.set_cons_succ]
                refine wpAnyH_take (i := 9) (oi := { dst := some 131, op := Op.load 3 (Operand.tmp 130), type := 3, pos := "l7_mail.go:37", after := #[{ on := 8, ground := Ground.data }], guard := none }) (v := ?_) rfl (by kernel_rfl) (by kernel_rfl) (by kernel_rfl) (fun _ _ _ h => h) (Or.inl ⟨by rfl, ?_⟩) (by assumption) ?_
                rotate_left
                · intro wq hSw
                  (try dsimp only at hSw)
                  go_simp
                  try with_reducible rfl
                try simp only [Act.put, List.setIfInBounds_toArray, List.set_cons_zero, List.set_cons_succ]
                refine wpAnyH_take (i := 13) (oi := { dst := some 135, op := Op.fieldAddr 41 (Operand.tmp 1) 8, type := 0, pos := "l7_mail.go:37", after := #[], guard := none }) (v := ?_) rfl (by kernel_rfl) (by kernel_rfl) (by kernel_rfl) (fun _ _ _ h => h) (Or.inl ⟨by rfl, ?_⟩) (by assumption) ?_
                rotate_left
                · intro wq hSw
                  (try dsimp only at hSw)
                  go_simp
                  try with_reducible rfl
                try simp only [Act.put, List.setIfInBounds_toArray, List.set_cons_zero, List.set_cons_succ]
                refine wpAnyH_take (i := 14) (oi := { dst := some 136, op := Op.fieldAddr 39 (Operand.tmp 135) 4, type := 0, pos := "l7_mail.go:37", after := #[{ on := 13, ground := Ground.data }], guard := none }) (v := ?_) rfl (by kernel_rfl) (by kernel_rfl) (by kernel_rfl) (fun _ _ _ h => h) (Or.inl ⟨by rfl, ?_⟩) (by assumption) ?_
                rotate_left
                · intro wq hSw
                  (try dsimp only at hSw)
                  go_simp
                  try with_reducible rfl
                try simp only [Act.put, List.setIfInBounds_toArray, List.set_cons_zero, List.set_cons_succ]
                refine wpAnyH_take (i := 15) (oi := { dst := some 137, op := Op.load 3 (Operand.tmp 136), type := 3, pos := "l7_mail.go:37", after := #[{ on := 14, ground := Ground.data }], guard := none }) (v := ?_) rfl (by kernel_rfl) (by kernel_rfl) (by kernel_rfl) (fun _ _ _ h => h) (Or.inl ⟨by rfl, ?_⟩) (by assumption) ?_
                rotate_left
                · intro wq hSw
                  (try dsimp only at hSw)
                  go_simp
                  try with_reducible rfl
                try simp only [Act.put, List.setIfInBounds_toArray, List.set_cons_zero, List.set_cons_succ]
                refine wpAnyH_ready (rs := [2]) (by kernel_rfl) (by simp) ?_
                refine AllReadyH.cons (o := { dst := some 124, op := Op.call { callee := Callee.value (Operand.func 62), args := #[Operand.tmp 123], argTypes := #[3] }, type := 9, pos := "l7_mail.go:37", after := #[{ on := 1, ground := Ground.data }], guard := none }) rfl (fun K hK => ?_) AllReadyH.nil
                go_simp
                refine (c62 (x.fr.toNat + 1) x.fr _ (by omega) (by omega) (Nat.lt_succ_self _)).mono ?_
                rintro e w3 ⟨rfl, hb3⟩
                have HB3 : Hid (Below w2.heap.size w2 w3) := ((Below.refl _ _).drew).trans hb3
                have b0 := (HB3.out.cell (p := ⟨w.heap.size, 0, none⟩) (by exact hz2)).trans a0
                have b1 := (HB3.out.cell (p := ⟨w.heap.size, 1, none⟩) (by exact hz2)).trans a1
                have b2 := (HB3.out.cell (p := ⟨w.heap.size, 2, none⟩) (by exact hz2)).trans a2
                have b3 := (HB3.out.cell (p := ⟨w.heap.size, 3, none⟩) (by exact hz2)).trans a3
                have b4 := (HB3.out.cell (p := ⟨w.heap.size, 4, none⟩) (by exact hz2)).trans a4
                have b5 := (HB3.out.cell (p := ⟨w.heap.size, 5, none⟩) (by exact hz2)).trans a5
                have b6 := (HB3.out.cell (p := ⟨w.heap.size, 6, none⟩) (by exact hz2)).trans a6
                have b7 := (HB3.out.cell (p := ⟨w.heap.size, 7, none⟩) (by exact hz2)).trans a7
                have b8 := (HB3.out.cell (p := ⟨w.heap.size, 8, none⟩) (by exact hz2)).trans a8
                have b9 := (HB3.out.cell (p := ⟨w.heap.size, 9, none⟩) (by exact hz2)).trans a9
                have b10 := (HB3.out.cell (p := ⟨w.heap.size, 10, none⟩) (by exact hz2)).trans a10
                have b11 := (HB3.out.cell (p := ⟨w.heap.size, 11, none⟩) (by exact hz2)).trans a11
                have b12 := (HB3.out.cell (p := ⟨w.heap.size, 12, none⟩) (by exact hz2)).trans a12
                have b13 := (HB3.out.cell (p := ⟨w.heap.size, 13, none⟩) (by exact hz2)).trans a13
                have b14 := (HB3.out.cell (p := ⟨w.heap.size, 14, none⟩) (by exact hz2)).trans a14
                have b15 := (HB3.out.cell (p := ⟨w.heap.size, 15, none⟩) (by exact hz2)).trans a15
                have hz3 : w.heap.size < w3.heap.size := Nat.lt_of_lt_of_le hz2 HB3.out.size
                have hB3 : Below w.heap.size w w3 := hB2.trans (HB3.out.mono hB2.size)
                clear hb3
                go_wp2_with fail
                clear hHeld
                refine hK.out _ _ ?_ (fun hHeld => ?_)
                · ((try dsimp only); go_keep)
                clear hK K
                try simp only [Act.put, List.setIfInBounds_toArray, List.set_cons_zero, List.set_cons_succ]
                refine wpAnyH_take (i := 3) (oi := { dst := some 125, op := Op.binOp BinOp.add 9 (Operand.const (Value.string { data := #[116, 117, 114, 110, 32] })) (Operand.tmp 124) 9, type := 9, pos := "l7_mail.go:37", after := #[{ on := 2, ground := Ground.data }], guard := none }) (v := ?_) rfl (by kernel_rfl) (by kernel_rfl) (by kernel_rfl) (fun _ _ _ h => h) (Or.inl ⟨by rfl, ?_⟩) (by assumption) ?_
                rotate_left
                · intro wq hSw
                  (try dsimp only at hSw)
                  go_simp
                  try with_reducible rfl
                try simp only [Act.put, List.setIfInBounds_toArray, List.set_cons_zero, List.set_cons_succ]
                refine wpAnyH_ready (rs := [5]) (by kernel_rfl) (by simp) ?_
                refine AllReadyH.cons (o := { dst := some 127, op := Op.call { callee := Callee.value (Operand.func 63), args := #[Operand.tmp 126], argTypes := #[41] }, type := 9, pos := "l7_mail.go:37", after := #[{ on := 4, ground := Ground.data }, { on := 2, ground := Ground.chain }], guard := none }) rfl (fun K hK => ?_) AllReadyH.nil
                go_simp
                refine (h63 w3).mono ?_
                rintro e w4 ⟨rfl, hb4⟩
                have HB4 : Hid (Below w3.heap.size w3 w4) := hb4
                have d0 := (HB4.out.cell (p := ⟨w.heap.size, 0, none⟩) (by exact hz3)).trans b0
                have d1 := (HB4.out.cell (p := ⟨w.heap.size, 1, none⟩) (by exact hz3)).trans b1
                have d2 := (HB4.out.cell (p := ⟨w.heap.size, 2, none⟩) (by exact hz3)).trans b2
                have d3 := (HB4.out.cell (p := ⟨w.heap.size, 3, none⟩) (by exact hz3)).trans b3
                have d4 := (HB4.out.cell (p := ⟨w.heap.size, 4, none⟩) (by exact hz3)).trans b4
                have d5 := (HB4.out.cell (p := ⟨w.heap.size, 5, none⟩) (by exact hz3)).trans b5
                have d6 := (HB4.out.cell (p := ⟨w.heap.size, 6, none⟩) (by exact hz3)).trans b6
                have d7 := (HB4.out.cell (p := ⟨w.heap.size, 7, none⟩) (by exact hz3)).trans b7
                have d8 := (HB4.out.cell (p := ⟨w.heap.size, 8, none⟩) (by exact hz3)).trans b8
                have d9 := (HB4.out.cell (p := ⟨w.heap.size, 9, none⟩) (by exact hz3)).trans b9
                have d10 := (HB4.out.cell (p := ⟨w.heap.size, 10, none⟩) (by exact hz3)).trans b10
                have d11 := (HB4.out.cell (p := ⟨w.heap.size, 11, none⟩) (by exact hz3)).trans b11
                have d12 := (HB4.out.cell (p := ⟨w.heap.size, 12, none⟩) (by exact hz3)).trans b12
                have d13 := (HB4.out.cell (p := ⟨w.heap.size, 13, none⟩) (by exact hz3)).trans b13
                have d14 := (HB4.out.cell (p := ⟨w.heap.size, 14, none⟩) (by exact hz3)).trans b14
                have d15 := (HB4.out.cell (p := ⟨w.heap.size, 15, none⟩) (by exact hz3)).trans b15
                have hz4 : w.heap.size < w4.heap.size := Nat.lt_of_lt_of_le hz3 HB4.out.size
                have hB4 : Below w.heap.size w w4 := hB3.trans (HB4.out.mono hB3.size)
                clear hb4
                go_wp2_with fail
                clear hHeld
                refine hK.out _ _ ?_ (fun hHeld => ?_)
                · ((try dsimp only); go_keep)
                clear hK K
                try simp only [Act.put, List.setIfInBounds_toArray, List.set_cons_zero, List.set_cons_succ]
                refine wpAnyH_take (i := 6) (oi := { dst := some 128, op := Op.binOp BinOp.add 9 (Operand.tmp 125) (Operand.tmp 127) 9, type := 9, pos := "l7_mail.go:37", after := #[{ on := 3, ground := Ground.data }, { on := 5, ground := Ground.data }], guard := none }) (v := ?_) rfl (by kernel_rfl) (by kernel_rfl) (by kernel_rfl) (fun _ _ _ h => h) (Or.inl ⟨by rfl, ?_⟩) (by assumption) ?_
                rotate_left
                · intro wq hSw
                  (try dsimp only at hSw)
                  go_simp
                  try with_reducible rfl
                try simp only [Act.put, List.setIfInBounds_toArray, List.set_cons_zero, List.set_cons_succ]
                refine wpAnyH_take (i := 7) (oi := { dst := some 129, op := Op.binOp BinOp.add 9 (Operand.tmp 128) (Operand.const (Value.string { data := #[32] })) 9, type := 9, pos := "l7_mail.go:37", after := #[{ on := 6, ground := Ground.data }], guard := none }) (v := ?_) rfl (by kernel_rfl) (by kernel_rfl) (by kernel_rfl) (fun _ _ _ h => h) (Or.inl ⟨by rfl, ?_⟩) (by assumption) ?_
                rotate_left
                · intro wq hSw
                  (try dsimp only at hSw)
                  go_simp
                  try with_reducible rfl
                try simp only [Act.put, List.setIfInBounds_toArray, List.set_cons_zero, List.set_cons_succ]
                refine wpAnyH_ready (rs := [10]) (by kernel_rfl) (by simp) ?_
                refine AllReadyH.cons (o := { dst := some 132, op := Op.call { callee := Callee.value (Operand.func 62), args := #[Operand.tmp 131], argTypes := #[3] }, type := 9, pos := "l7_mail.go:37", after := #[{ on := 9, ground := Ground.data }, { on := 5, ground := Ground.chain }], guard := none }) rfl (fun K hK => ?_) AllReadyH.nil
                go_simp
                refine (c62 (x.ct.toNat + 1) x.ct _ (by omega) (by omega) (Nat.lt_succ_self _)).mono ?_
                rintro e w5 ⟨rfl, hb5⟩
                have HB5 : Hid (Below w4.heap.size w4 w5) := hb5
                have f0 := (HB5.out.cell (p := ⟨w.heap.size, 0, none⟩) (by exact hz4)).trans d0
                have f1 := (HB5.out.cell (p := ⟨w.heap.size, 1, none⟩) (by exact hz4)).trans d1
                have f2 := (HB5.out.cell (p := ⟨w.heap.size, 2, none⟩) (by exact hz4)).trans d2
                have f3 := (HB5.out.cell (p := ⟨w.heap.size, 3, none⟩) (by exact hz4)).trans d3
                have f4 := (HB5.out.cell (p := ⟨w.heap.size, 4, none⟩) (by exact hz4)).trans d4
                have f5 := (HB5.out.cell (p := ⟨w.heap.size, 5, none⟩) (by exact hz4)).trans d5
                have f6 := (HB5.out.cell (p := ⟨w.heap.size, 6, none⟩) (by exact hz4)).trans d6
                have f7 := (HB5.out.cell (p := ⟨w.heap.size, 7, none⟩) (by exact hz4)).trans d7
                have f8 := (HB5.out.cell (p := ⟨w.heap.size, 8, none⟩) (by exact hz4)).trans d8
                have f9 := (HB5.out.cell (p := ⟨w.heap.size, 9, none⟩) (by exact hz4)).trans d9
                have f10 := (HB5.out.cell (p := ⟨w.heap.size, 10, none⟩) (by exact hz4)).trans d10
                have f11 := (HB5.out.cell (p := ⟨w.heap.size, 11, none⟩) (by exact hz4)).trans d11
                have f12 := (HB5.out.cell (p := ⟨w.heap.size, 12, none⟩) (by exact hz4)).trans d12
                have f13 := (HB5.out.cell (p := ⟨w.heap.size, 13, none⟩) (by exact hz4)).trans d13
                have f14 := (HB5.out.cell (p := ⟨w.heap.size, 14, none⟩) (by exact hz4)).trans d14
                have f15 := (HB5.out.cell (p := ⟨w.heap.size, 15, none⟩) (by exact hz4)).trans d15
                have hz5 : w.heap.size < w5.heap.size := Nat.lt_of_lt_of_le hz4 HB5.out.size
                have hB5 : Below w.heap.size w w5 := hB4.trans (HB5.out.mono hB4.size)
                clear hb5
                go_wp2_with fail
                clear hHeld
                refine hK.out _ _ ?_ (fun hHeld => ?_)
                · ((try dsimp only); go_keep)
                clear hK K
                try simp only [Act.put, List.setIfInBounds_toArray, List.set_cons_zero, List.set_cons_succ]
                refine wpAnyH_take (i := 11) (oi := { dst := some 133, op := Op.binOp BinOp.add 9 (Operand.tmp 129) (Operand.tmp 132) 9, type := 9, pos := "l7_mail.go:37", after := #[{ on := 7, ground := Ground.data }, { on := 10, ground := Ground.data }], guard := none }) (v := ?_) rfl (by kernel_rfl) (by kernel_rfl) (by kernel_rfl) (fun _ _ _ h => h) (Or.inl ⟨by rfl, ?_⟩) (by assumption) ?_
                rotate_left
                · intro wq hSw
                  (try dsimp only at hSw)
                  go_simp
                  try with_reducible rfl
                try simp only [Act.put, List.setIfInBounds_toArray, List.set_cons_zero, List.set_cons_succ]
                refine wpAnyH_take (i := 12) (oi := { dst := some 134, op := Op.binOp BinOp.add 9 (Operand.tmp 133) (Operand.const (Value.string { data := #[32] })) 9, type := 9, pos := "l7_mail.go:37", after := #[{ on := 11, ground := Ground.data }], guard := none }) (v := ?_) rfl (by kernel_rfl) (by kernel_rfl) (by kernel_rfl) (fun _ _ _ h => h) (Or.inl ⟨by rfl, ?_⟩) (by assumption) ?_
                rotate_left
                · intro wq hSw
                  (try dsimp only at hSw)
                  go_simp
                  try with_reducible rfl
                try simp only [Act.put, List.setIfInBounds_toArray, List.set_cons_zero, List.set_cons_succ]
                refine wpAnyH_ready (rs := [16]) (by kernel_rfl) (by simp) ?_
                refine AllReadyH.cons (o := { dst := some 138, op := Op.call { callee := Callee.value (Operand.func 62), args := #[Operand.tmp 137], argTypes := #[3] }, type := 9, pos := "l7_mail.go:37", after := #[{ on := 15, ground := Ground.data }, { on := 10, ground := Ground.chain }], guard := none }) rfl (fun K hK => ?_) AllReadyH.nil
                go_simp
                refine (c62 (x.tn.st.toNat + 1) x.tn.st _ (by omega) (by omega) (Nat.lt_succ_self _)).mono ?_
                rintro e w6 ⟨rfl, hb6⟩
                have HB6 : Hid (Below w5.heap.size w5 w6) := hb6
                have g0 := (HB6.out.cell (p := ⟨w.heap.size, 0, none⟩) (by exact hz5)).trans f0
                have g1 := (HB6.out.cell (p := ⟨w.heap.size, 1, none⟩) (by exact hz5)).trans f1
                have g2 := (HB6.out.cell (p := ⟨w.heap.size, 2, none⟩) (by exact hz5)).trans f2
                have g3 := (HB6.out.cell (p := ⟨w.heap.size, 3, none⟩) (by exact hz5)).trans f3
                have g4 := (HB6.out.cell (p := ⟨w.heap.size, 4, none⟩) (by exact hz5)).trans f4
                have g5 := (HB6.out.cell (p := ⟨w.heap.size, 5, none⟩) (by exact hz5)).trans f5
                have g6 := (HB6.out.cell (p := ⟨w.heap.size, 6, none⟩) (by exact hz5)).trans f6
                have g7 := (HB6.out.cell (p := ⟨w.heap.size, 7, none⟩) (by exact hz5)).trans f7
                have g8 := (HB6.out.cell (p := ⟨w.heap.size, 8, none⟩) (by exact hz5)).trans f8
                have g9 := (HB6.out.cell (p := ⟨w.heap.size, 9, none⟩) (by exact hz5)).trans f9
                have g10 := (HB6.out.cell (p := ⟨w.heap.size, 10, none⟩) (by exact hz5)).trans f10
                have g11 := (HB6.out.cell (p := ⟨w.heap.size, 11, none⟩) (by exact hz5)).trans f11
                have g12 := (HB6.out.cell (p := ⟨w.heap.size, 12, none⟩) (by exact hz5)).trans f12
                have g13 := (HB6.out.cell (p := ⟨w.heap.size, 13, none⟩) (by exact hz5)).trans f13
                have g14 := (HB6.out.cell (p := ⟨w.heap.size, 14, none⟩) (by exact hz5)).trans f14
                have g15 := (HB6.out.cell (p := ⟨w.heap.size, 15, none⟩) (by exact hz5)).trans f15
                have hz6 : w.heap.size < w6.heap.size := Nat.lt_of_lt_of_le hz5 HB6.out.size
                have hB6 : Below w.heap.size w w6 := hB5.trans (HB6.out.mono hB5.size)
                clear hb6
                go_wp2_with fail
                clear hHeld
                refine hK.out _ _ ?_ (fun hHeld => ?_)
                · ((try dsimp only); go_keep)
                clear hK K
                try simp only [Act.put, List.setIfInBounds_toArray, List.set_cons_zero, List.set_cons_succ]
                refine wpAnyH_take (i := 17) (oi := { dst := some 139, op := Op.binOp BinOp.add 9 (Operand.tmp 134) (Operand.tmp 138) 9, type := 9, pos := "l7_mail.go:37", after := #[{ on := 12, ground := Ground.data }, { on := 16, ground := Ground.data }], guard := none }) (v := ?_) rfl (by kernel_rfl) (by kernel_rfl) (by kernel_rfl) (fun _ _ _ h => h) (Or.inl ⟨by rfl, ?_⟩) (by assumption) ?_
                rotate_left
                · intro wq hSw
                  (try dsimp only at hSw)
                  go_simp
                  try with_reducible rfl
                try simp only [Act.put, List.setIfInBounds_toArray, List.set_cons_zero, List.set_cons_succ]
                refine wpAnyH_take (i := 18) (oi := { dst := some 140, op := Op.binOp BinOp.add 9 (Operand.tmp 139) (Operand.const (Value.string { data := #[10] })) 9, type := 9, pos := "l7_mail.go:37", after := #[{ on := 17, ground := Ground.data }], guard := none }) (v := ?_) rfl (by kernel_rfl) (by kernel_rfl) (by kernel_rfl) (fun _ _ _ h => h) (Or.inl ⟨by rfl, ?_⟩) (by assumption) ?_
                rotate_left
                · intro wq hSw
                  (try dsimp only at hSw)
                  go_simp
                  try with_reducible rfl
                try simp only [Act.put, List.setIfInBounds_toArray, List.set_cons_zero, List.set_cons_succ]
                refine wpAnyH_take (i := 19) (oi := { dst := some 5, op := Op.assign (Operand.tmp 140), type := 9, pos := "l7_mail.go:37", after := #[{ on := 18, ground := Ground.data }, { on := 16, ground := Ground.chain }, { on := 0, ground := Ground.phase }, { on := 1, ground := Ground.phase }, { on := 2, ground := Ground.phase }, { on := 3, ground := Ground.phase }, { on := 4, ground := Ground.phase }, { on := 5, ground := Ground.phase }, { on := 6, ground := Ground.phase }, { on := 7, ground := Ground.phase }, { on := 8, ground := Ground.phase }, { on := 9, ground := Ground.phase }, { on := 10, ground := Ground.phase }, { on := 11, ground := Ground.phase }, { on := 12, ground := Ground.phase }, { on := 13, ground := Ground.phase }, { on := 14, ground := Ground.phase }, { on := 15, ground := Ground.phase }, { on := 16, ground := Ground.phase }, { on := 17, ground := Ground.phase }, { on := 18, ground := Ground.phase }], guard := none }) (v := ?_) rfl (by kernel_rfl) (by kernel_rfl) (by kernel_rfl) (fun _ _ _ h => h) (Or.inl ⟨by rfl, ?_⟩) (by assumption) ?_
                rotate_left
                · intro wq hSw
                  (try dsimp only at hSw)
                  go_simp
                  try with_reducible rfl
                try simp only [Act.put, List.setIfInBounds_toArray, List.set_cons_zero, List.set_cons_succ]
                refine wpAnyH_done (by kernel_rfl) ?_ _
                clear hHeld
                rw [HE.out]
                cases hov : x.tn.over
                · have g10' : w6.cell? ⟨w.heap.size, 10, none⟩ = some (.bool false) := by rw [← hov]; exact g10
                  cases hha : x.tn.has
                  · have g13' : w6.cell? ⟨w.heap.size, 13, none⟩ = some (.bool false) := by rw [← hha]; exact g13
                    clear g10 g13
                    have k8 : ¬ 9223372036854775807 < (ofL (frstL x)).size + 4 := by omega
                    have k8' : ¬ 9223372036854775807 < (ofL (frstL x)).size + 4 + x.tn.nm.size := by omega
                    have k9 : ¬ 9223372036854775807 < (ofL (frstL x)).size + 4 + x.tn.nm.size + 1 := by omega
                    have k9' : ¬ 9223372036854775807 ≤ (ofL (frstL x)).size + 4 + x.tn.nm.size := by omega
                    have HX : Hid (ofL (frstL x) ++ ⟨#[97, 115, 107, 32]⟩ ++ x.tn.nm ++ ⟨#[10]⟩ = ofL (turnL x)) := turn_ask x hov hha
                    go_wp2
                    go_ret
                    exact ⟨⟨_, rfl, .inl ⟨HOK.out, HX.out⟩⟩, hB6⟩
                  · have g13' : w6.cell? ⟨w.heap.size, 13, none⟩ = some (.bool true) := by rw [← hha]; exact g13
                    clear g10 g13
                    have k8 : ¬ 9223372036854775807 < (ofL (frstL x)).size + 4 := by omega
                    have k8' : ¬ 9223372036854775807 < (ofL (frstL x)).size + 4 + x.tn.nm.size := by omega
                    have k9 : ¬ 9223372036854775807 < (ofL (frstL x)).size + 4 + x.tn.nm.size + 1 := by omega
                    have k9' : ¬ 9223372036854775807 ≤ (ofL (frstL x)).size + 4 + x.tn.nm.size := by omega
                    have HX : Hid (ofL (frstL x) ++ ⟨#[104, 97, 115, 32]⟩ ++ x.tn.nm ++ ⟨#[10]⟩ = ofL (turnL x)) := turn_has x hov hha
                    go_wp2
                    go_ret
                    exact ⟨⟨_, rfl, .inl ⟨HOK.out, HX.out⟩⟩, hB6⟩
                · have g10' : w6.cell? ⟨w.heap.size, 10, none⟩ = some (.bool true) := by rw [← hov]; exact g10
                  clear g10
                  have qc := tn_code hov HOK.out.2.2.2.2.2
                  have zr := res_size x.tn.cd x.tn.tx qc.1 (by omega)
                  have k8 : ¬ 9223372036854775807 < (ofL (frstL x)).size + 5 := by omega
                  have k8' : ¬ 9223372036854775807 < (ofL (frstL x)).size + 5 + (ofL (resL x.tn.cd x.tn.tx)).size := by omega
                  have k9 : ¬ 9223372036854775807 < (ofL (frstL x)).size + 5 + (ofL (resL x.tn.cd x.tn.tx)).size + 1 := by omega
                  have k9' : ¬ 9223372036854775807 ≤ (ofL (frstL x)).size + 5 + (ofL (resL x.tn.cd x.tn.tx)).size := by omega
                  have HX : Hid (ofL (frstL x) ++ ⟨#[111, 118, 101, 114, 32]⟩ ++ ofL (resL x.tn.cd x.tn.tx) ++ ⟨#[10]⟩ = ofL (turnL x)) := turn_over x hov
                  go_wp2_with fail
                  refine (c68 x.tn.cd x.tn.tx _ qc.1 (by omega) (by omega)).mono ?_
                  rintro e w7 ⟨rfl, hb7⟩
                  have hB7 : Below w.heap.size w w7 := hB6.trans (hb7.mono hB6.size)
                  clear hb7
                  go_wp2
                  go_ret
                  exact ⟨⟨_, rfl, .inl ⟨HOK.out, HX.out⟩⟩, hB7⟩
end Go.Proofs.YtdcgjdgpiogdaaaGreatDoor
