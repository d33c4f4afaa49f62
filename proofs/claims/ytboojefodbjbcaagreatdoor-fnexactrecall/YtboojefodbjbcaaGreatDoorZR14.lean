import Derived.Test.YtboojefodbjbcaaGreatDoorZR13
import Derived.Test.YtboojefodbjbcaaGreatDoorZR12
import Derived.Test.YtboojefodbjbcaaGreatDoorZR03
namespace Go.Proofs.YtboojefodbjbcaaGreatDoor.G
open Go.RowKit
set_option maxHeartbeats 1000000 in
theorem c6 (x : M3) (l : Int) (w : World) (hs : x.le 9223372036854775807) (h0 : 0 ≤ l) (h1 : l ≤ 1048576) :
 Calls Tryz.prog 6 #[.agg #[.string x.nm, .string x.tl, .string x.ar], .int .i64 l] w fun e w' => (∃ r : Int, e = .returned (.int .i64 r) ∧ (0 ≤ r → x.le 1048576 ∧ r ≤ 1048576)) ∧ Below w.heap.size w w' := by
 obtain ⟨s1, s2, s3⟩ := hs
 have HL : Hid (∀ r : Int, (0 ≤ r → ((x.nm.size : Int) ≤ l ∧ (x.tl.size : Int) ≤ l ∧ (x.ar.size : Int) ≤ l ∧ r ≤ l)) → (0 ≤ r → x.le 1048576 ∧ r ≤ 1048576)) := fun r h g => by
  have := h g
  exact ⟨⟨by omega, by omega, by omega⟩, by omega⟩
 by_cases h' : l < x.nm.size
 · go_enter Tryz.func6, Tryz.ntmps6
   go_wp2
   go_ret
   exact ⟨⟨-1, rfl, HL.out _ fun h => by omega⟩, (Below.refl _ _).alloc (Nat.le_refl _) _⟩
 · by_cases h'' : l < x.nm.size + x.tl.size
   · go_enter Tryz.func6, Tryz.ntmps6
     go_wp2
     go_ret
     exact ⟨⟨-1, rfl, HL.out _ fun h => by omega⟩, (Below.refl _ _).alloc (Nat.le_refl _) _⟩
   · by_cases h3 : l < x.nm.size + x.tl.size + x.ar.size
     · go_enter Tryz.func6, Tryz.ntmps6
       go_wp2
       go_ret
       exact ⟨⟨-1, rfl, HL.out _ fun h => by omega⟩, (Below.refl _ _).alloc (Nat.le_refl _) _⟩
     · go_enter Tryz.func6, Tryz.ntmps6
       go_wp2
       go_ret
       exact ⟨⟨_, rfl, HL.out _ fun h => by omega⟩, (Below.refl _ _).alloc (Nat.le_refl _) _⟩
set_option maxHeartbeats 400000 in
theorem c11 (x : M3) (w : World) :
 Calls Tryz.prog 11 #[.agg #[.string x.nm, .string x.tl, .string x.ar]] w fun e w' => e = .returned (.agg #[.string x.nm, .string x.tl, .string x.ar]) ∧ Below w.heap.size w w' := by
 go_enter Tryz.func11, Tryz.ntmps11
 go_wp2
 refine bodyPost_ret (v := .agg #[.string x.nm, .string x.tl, .string x.ar]) (by simp [results, Tryz.results11, go_sem]) rfl ⟨rfl, ?_⟩
 exact (((Below.refl _ _).alloc (Nat.le_refl _) _).alloc (by simp) _).alloc (by simp; omega) _
structure D8 where
 nm : ByteArray
 made : Bool
 km : M3
 ls : List L4
 cd : Int
 tx : ByteArray
def d8z : D8 := ⟨⟨#[]⟩, false, m3z, [], 0, ⟨#[]⟩⟩
def D8.le (x : D8) (B : Nat) : Prop := x.nm.size ≤ B ∧ x.km.le B ∧ (x.ls.length ≤ B ∧ ∀ i, (x.ls.getD i l4z).le B) ∧ x.tx.size ≤ B
def DeedAt (w : World) (b o : Nat) (x : D8) : Prop := ∃ ai ci, (w.cell? ⟨b, o, none⟩ = some (.string x.nm) ∧ w.cell? ⟨b, o + 1, none⟩ = some (.bool x.made) ∧ w.cell? ⟨b, o + 2, none⟩ = some (.string x.km.nm) ∧ w.cell? ⟨b, o + 3, none⟩ = some (.string x.km.tl) ∧ w.cell? ⟨b, o + 4, none⟩ = some (.string x.km.ar) ∧ w.cell? ⟨b, o + 5, none⟩ = some (.slice ai x.ls.length ci) ∧ w.cell? ⟨b, o + 6, none⟩ = some (.int .i64 x.cd) ∧ w.cell? ⟨b, o + 7, none⟩ = some (.string x.tx)) ∧ LksAt w ai x.ls
def DeedsAt (w : World) (a : Option Addr) (is : List D8) : Prop := is = [] ∨ ∃ b off, a = some ⟨b, off, none⟩ ∧ b < w.heap.size ∧ ∀ i, i < is.length → DeedAt w b (off + i * 8) (is.getD i d8z)
theorem DeedAt.below {w w' : World} {b o : Nat} {x : D8} (h : DeedAt w b o x) (hlt : b < w.heap.size) (hb : Below w.heap.size w w') : DeedAt w' b o x := by
 obtain ⟨ai, ci, hc, hg⟩ := h
 refine ⟨ai, ci, ?_, lks_below hg hb⟩
 rw [hb.cell (by exact hlt), hb.cell (by exact hlt), hb.cell (by exact hlt), hb.cell (by exact hlt), hb.cell (by exact hlt), hb.cell (by exact hlt), hb.cell (by exact hlt), hb.cell (by exact hlt)]
 exact hc
theorem deeds_some {w : World} {a : Option Addr} {is : List D8} (h : DeedsAt w a is) : ∃ b off, (is = [] ∨ (a = some ⟨b, off, none⟩ ∧ b < w.heap.size ∧ ∀ i, i < is.length → DeedAt w b (off + i * 8) (is.getD i d8z))) := by
 rcases h with h | ⟨b, off, h⟩
 · exact ⟨0, 0, .inl h⟩
 · exact ⟨b, off, .inr h⟩
theorem deeds_below {w w' : World} {a : Option Addr} {is : List D8} (h : DeedsAt w a is) (hb : Below w.heap.size w w') : DeedsAt w' a is := by
 rcases h with h | ⟨b, off, h1, h2, h3⟩
 · exact .inl h
 · exact .inr ⟨b, off, h1, Nat.lt_of_lt_of_le h2 hb.size, fun i hi => (h3 i hi).below h2 hb⟩
theorem getD_smallD {is : List D8} {B : Nat} (h : ∀ i, i < is.length → (is.getD i d8z).le B) (i : Nat) : (is.getD i d8z).le B := by
 rcases Nat.lt_or_ge i is.length with h' | h'
 · exact h i h'
 · have e : is.getD i d8z = d8z := by simp [List.getD, List.getElem?_eq_none h']
   rw [e]; exact ⟨Nat.zero_le _, ⟨Nat.zero_le _, Nat.zero_le _, Nat.zero_le _⟩, ⟨Nat.zero_le _, fun i => ⟨Nat.zero_le _, Nat.zero_le _⟩⟩, Nat.zero_le _⟩
set_option maxHeartbeats 2000000 in
theorem c27 (x : D8) (ai : Option Addr) (ci : Nat) (l : Int) (w : World) (hs : x.le 9223372036854775807) (h0 : 0 ≤ l) (h1 : l ≤ 1048576) (hat : LksAt w ai x.ls) :
 Calls Tryz.prog 27 #[.agg #[.string x.nm, .bool x.made, .string x.km.nm, .string x.km.tl, .string x.km.ar, .slice ai x.ls.length ci, .int .i64 x.cd, .string x.tx], .int .i64 l] w fun e w' => (∃ r : Int, e = .returned (.int .i64 r) ∧ (0 ≤ r → x.le 1048576 ∧ r ≤ 1048576)) ∧ Below w.heap.size w w' := by
 obtain ⟨s1, s2, ⟨s3, s4⟩, s5⟩ := hs
 have HA : Hid (LksAt w ai x.ls) := hat
 clear hat
 by_cases h' : l < x.nm.size
 · go_enter Tryz.func27, Tryz.ntmps27
   go_wp2
   go_ret
   exact ⟨⟨-1, rfl, fun h => by omega⟩, (Below.refl _ _).alloc (Nat.le_refl _) _⟩
 · have hB0 : ∀ o, Below w.heap.size w (w.alloc o) := fun o => (Below.refl _ _).alloc (Nat.le_refl _) _
   go_enter Tryz.func27, Tryz.ntmps27
   go_wp2_with fail
   refine (c6 x.km (l - x.nm.size) _ s2 (by omega) (by omega)).mono ?_
   rintro e w1 ⟨⟨r, rfl, hr⟩, hb1⟩
   have hB1 : Below w.heap.size w w1 := (hB0 _).trans (hb1.mono (by simp))
   have hC1 := hb1
   by_cases hn : r < 0
   · clear hr
     go_wp2
     go_ret
     exact ⟨⟨-1, rfl, fun h => by omega⟩, hB1⟩
   · have hr' := hr (by omega)
     clear hr
     have k5 : w1.cell? ⟨w.heap.size, 5, none⟩ = some (.slice ai x.ls.length ci) := (hb1.cell (p := ⟨w.heap.size, 5, none⟩) (by simp)).trans (by simp [go_sem])
     have k6 : w1.cell? ⟨w.heap.size, 6, none⟩ = some (.int .i64 x.cd) := (hb1.cell (p := ⟨w.heap.size, 6, none⟩) (by simp)).trans (by simp [go_sem])
     have k7 : w1.cell? ⟨w.heap.size, 7, none⟩ = some (.string x.tx) := (hb1.cell (p := ⟨w.heap.size, 7, none⟩) (by simp)).trans (by simp [go_sem])
     have hz1 : w.heap.size < w1.heap.size := by have := hb1.size; simp at this; omega
     clear hb1 hC1
     go_wp2_with fail
     refine (c63 ai ci x.ls r w1 (by omega) hr'.2 s4 s3 (lks_below HA.out hB1)).mono ?_
     rintro e w2 ⟨⟨r2, rfl, hr2⟩, hb2⟩
     have hB2 : Below w.heap.size w w2 := hB1.trans (hb2.mono hB1.size)
     by_cases hn2 : r2 < 0
     · clear hr2
       go_wp2
       go_ret
       exact ⟨⟨-1, rfl, fun h => by omega⟩, hB2⟩
     · have hr2' := hr2 (by omega)
       clear hr2
       have m6 := (hb2.cell (p := ⟨w.heap.size, 6, none⟩) (by exact hz1)).trans k6
       have m7 := (hb2.cell (p := ⟨w.heap.size, 7, none⟩) (by exact hz1)).trans k7
       clear k5 k6 k7
       go_wp2_with fail
       refine (c64 x.cd x.tx r2 w2 s5 (by omega) hr2'.2.2).mono ?_
       rintro e w3 ⟨⟨r3, rfl, hr3⟩, hb3⟩
       have hB3 : Below w.heap.size w w3 := hB2.trans (hb3.mono hB2.size)
       by_cases hn3 : r3 < 0
       · clear hr3
         go_wp2
         go_ret
         exact ⟨⟨-1, rfl, fun h => by omega⟩, hB3⟩
       · have hr3' := hr3 (by omega)
         have HL : Hid (x.le 1048576) := ⟨by omega, hr'.1, ⟨hr2'.1, hr2'.2.1⟩, hr3'.1⟩
         clear hr3
         go_wp2
         go_ret
         exact ⟨⟨r3, rfl, fun h => ⟨HL.out, hr3'.2⟩⟩, hB3⟩
end Go.Proofs.YtboojefodbjbcaaGreatDoor.G
namespace Go.Proofs.YtboojefodbjbcaaGreatDoor.G
open Go.RowKit
open T (F2 f2z FilesAt Asc files_below treeOk)
end Go.Proofs.YtboojefodbjbcaaGreatDoor.G
namespace Go.Proofs.YtboojefodbjbcaaGreatDoor.G
open Go.RowKit
open T (F2 f2z treeOk Asc FilesAt)
structure VarsZ (w : World) : Prop where
 vr : VarsR w
 gT : ∃ t v, w.cell? ⟨0, 0, none⟩ = some (.iface t v)
theorem VarsZ.below {w w' : World} (h : VarsZ w) (hb : Below w.heap.size w w') : VarsZ w' := by
 have hp := h.vr.mx.1
 obtain ⟨t, v, h0⟩ := h.gT
 exact ⟨h.vr.below hb, t, v, (hb.cell (p := ⟨0, 0, none⟩) (by show 0 < w.heap.size; omega)).trans h0⟩
theorem tree_text {fs : List F2} (h : treeOk fs) {i : Nat} (hi : i < fs.length) : (fs.getD i f2z).tx.size ≤ 300 := by
 have := h.2 i hi
 unfold T.stepOk at this
 simp only [Bool.and_eq_true] at this
 have h1 := this.1
 unfold T.fileOk at h1
 simp only [Bool.and_eq_true, decide_eq_true_eq] at h1
 have := h1.2
 omega
def Is19 (w : World) (fs : List F2) (e : Ending) (w' : World) : Prop := ∃ (ms : List M3) (v er : Value), e = .returned (.tuple #[v, er]) ∧ w'.ownsRow w.heap.size 51 3 v ms.length (mkCells ms) ∧ ((er = .nilIface ∧ IsPT fs ms) ∨ ((∃ n ty va, er = .iface 190 (.agg #[.int .i64 n, .iface ty va])) ∧ IsPT fs []))
set_option maxHeartbeats 4000000 in
set_option maxRecDepth 100000 in
theorem c86 (a : Option Addr) (cap : Nat) (fs : List F2) (w : World) (hok : treeOk fs) (hat : FilesAt w a fs) (hv : VarsZ w) :
 Calls Tryz.prog 86 #[.agg #[.slice a fs.length cap]] w fun e w' => Is19 w fs e w' ∧ Below w.heap.size w w' := by
 have HV : Hid (VarsZ w) := hv
 have HOK : Hid (treeOk fs) := hok
 have HAT : Hid (FilesAt w a fs) := hat
 have hl := hok.1
 have hm := T.asc_of hok
 have HM : Hid (Asc fs) := hm
 have hB0 : Below w.heap.size w (w.alloc (.cells #[.slice a fs.length cap] 49)) := (Below.refl _ _).alloc (Nat.le_refl _) _
 have h33 := c97 a cap fs planA _ hl (T.files_below hat hB0) hm
 clear hv hok hat hm
 unfold planA at h33
 go_enter Tryz.func86, Tryz.ntmps86
 go_wp2_with fail
 refine h33.mono ?_
 rintro e w1 ⟨⟨x, there, rfl, hx⟩, hb1⟩
 clear h33
 have hx1 : Below (w.heap.size + 1) (w.alloc (.cells #[.slice a fs.length cap] 49)) w1 := by have h := hb1; simp at h; exact h
 have hB1 : Below w.heap.size w w1 := hB0.trans (hx1.mono (by omega))
 have hz1 : w.heap.size + 1 ≤ w1.heap.size := by have := hx1.size; simpa using this
 have t1 : w1.cell? ⟨w.heap.size, 0, none⟩ = some (.slice a fs.length cap) := (hx1.cell (p := ⟨w.heap.size, 0, none⟩) (by simp)).trans (by simp [go_sem])
 clear hb1
 cases there
 · have HR : Hid (IsPT fs []) := by
    rcases hx with ⟨h, _⟩ | ⟨_, h⟩
    · cases h
    · exact .inr (.inl ⟨HOK.out, h, rfl⟩)
   clear hx
   go_wp2
   go_ret2
   exact ⟨⟨[], _, _, rfl, World.ownsRow_nil _ _ _ _, .inl ⟨rfl, HR.out⟩⟩, hB1.alloc hB1.size _⟩
 · have HX : Hid (∃ i, i < fs.length ∧ fs.getD i f2z = x ∧ x.nm = planA) := by
    rcases hx with ⟨_, h⟩ | ⟨h, _⟩
    · exact h
    · cases h
   have hxt : x.tx.size ≤ 300 := by
    obtain ⟨i, hi, rfl, _⟩ := HX.out
    exact tree_text HOK.out hi
   have HNO : Hid (∀ ks ok, IsPlan x.tx.data.toList ks ok → ¬ (ok = true ∧ FreeAll fs ks) → IsPT fs []) := fun ks ok hp hn => by
    obtain ⟨i, hi, rfl, hnm⟩ := HX.out
    exact .inr (.inr ⟨HOK.out, i, hi, hnm, ks, ok, hp, .inr ⟨hn, rfl⟩⟩)
   have HYES : Hid (∀ ks, IsPlan x.tx.data.toList ks true → FreeAll fs ks → IsPT fs ks) := fun ks hp hn => by
    obtain ⟨i, hi, rfl, hnm⟩ := HX.out
    exact .inr (.inr ⟨HOK.out, i, hi, hnm, ks, true, hp, .inl ⟨rfl, hn, rfl⟩⟩)
   clear hx HX
   have hA1 : Below w.heap.size w (w1.alloc (.cells #[.string x.nm, .string x.tx] 129)) := hB1.alloc hB1.size _
   go_wp2_with fail
   refine (c112 x.tx _ (by omega) (HV.out.below hA1).vr).mono ?_
   rintro e w2 ⟨⟨ms, v, er, rfl, hown, hor⟩, hb2⟩
   have hB2 : Below w.heap.size w w2 := hA1.trans (hb2.mono hA1.size)
   have hz2 : w1.heap.size + 1 ≤ w2.heap.size := by have := hb2.size; simpa using this
   have t2 : w2.cell? ⟨w.heap.size, 0, none⟩ = some (.slice a fs.length cap) := (hb2.cell (p := ⟨w.heap.size, 0, none⟩) (by simp; omega)).trans (past (by show w.heap.size < w1.heap.size; omega) t1 _)
   have hown2 : w2.ownsRow w.heap.size 51 3 v ms.length (mkCells ms) := owns_mono hown (by simp; omega)
   clear hown hb2
   obtain ⟨ao, co, hvv⟩ := row_form3 hown2
   subst hvv
   rcases hor with ⟨rfl, hp⟩ | ⟨⟨n, ty, va, rfl⟩, hp⟩
   · have HP : Hid (IsPlan x.tx.data.toList ms true) := hp
     obtain ⟨hml, hms⟩ := isPlan_len hp
     clear hp
     go_wp2_with fail
     go_loopw [30] (fun i wr => ∃ (k : Nat), k ≤ ms.length ∧ i = .int .i64 k ∧ Hid (∀ j, j < k → Free fs (ms.getD j m3z).nm) ∧ Below w2.heap.size w2 wr) (fun i _ => ms.length - (intOf i).toNat)
     case atStart => exact ⟨0, Nat.zero_le _, rfl, fun j h => absurd h (Nat.not_lt_zero _), Below.refl _ _⟩
     case round =>
      obtain ⟨k, hk, rfl, hfr, hbr⟩ := hrel
      have hBr : Below w.heap.size w wr := hB2.trans (hbr.mono hB2.size)
      have hownr := ownsRow_below hown2 hbr
      have hzr : w2.heap.size ≤ wr.heap.size := hbr.size
      have tr : wr.cell? ⟨w.heap.size, 0, none⟩ = some (.slice a fs.length cap) := (hbr.cell (p := ⟨w.heap.size, 0, none⟩) (by show w.heap.size < w2.heap.size; omega)).trans t2
      by_cases hlt : k < ms.length
      · obtain ⟨ao', co', hv', hatm⟩ := own3_form hownr
        injection hv' with e1 e2 e3
        subst e1 e3
        obtain ⟨b, off, hc⟩ := mks_some hatm
        rcases hc with hss | ⟨hao, hbw, hcell⟩
        · rw [hss] at hlt; exact absurd hlt (Nat.not_lt_zero _)
        subst hao
        obtain ⟨g0, g1, g2⟩ := hcell k hlt
        have HX : Hid (∃ y, y = ms.getD k m3z) := ⟨_, rfl⟩
        obtain ⟨y, hy⟩ := HX.out
        rw [← hy] at g0 g1 g2
        have HY : Hid (y = ms.getD k m3z) := hy
        clear hy HX hcell hatm
        have hAr : ∀ o, Below w.heap.size w (wr.alloc o) := fun o => hBr.alloc hBr.size _
        have h35 := fun o => T.c113 a cap fs y.nm (wr.alloc o) hl (T.files_below HAT.out (hAr o)) HM.out
        have tr' := past (by show w.heap.size < wr.heap.size; omega) tr
        go_wp2_with fail
        refine (h35 _).mono ?_
        rintro e w3 ⟨⟨p, f, rfl, hp⟩, hb3⟩
        obtain ⟨P1, P2⟩ := place_free HM.out hp
        have hbr3 : Below w2.heap.size w2 w3 := (hbr.alloc hzr _).trans (hb3.mono (by simp; omega))
        have hB3 : Below w.heap.size w w3 := hB2.trans (hbr3.mono hB2.size)
        clear h35 hp hb3
        cases f
        · have hfr' : Hid (∀ j, j < k + 1 → Free fs (ms.getD j m3z).nm) := fun j hj => by
           rcases Nat.lt_or_ge j k with h | h
           · exact hfr.out j h
           · obtain rfl : j = k := by omega
             rw [← HY.out]; exact P2 rfl
          clear P1 P2
          go_wp2
          go_roundw
          case rel => exact ⟨k + 1, by omega, by go_num, hfr', hbr3⟩
          case measure => simp [intOf]; omega
        · have HR : Hid (IsPT fs []) := by
           refine HNO.out _ _ HP.out (fun h => ?_)
           obtain ⟨i, _, hi, hn⟩ := P1 rfl
           have := h.2 k hlt i hi
           rw [← HY.out] at this
           exact this hn
          obtain ⟨t5, v5, g5⟩ := (HV.out.below hB3).gT
          clear P1 P2 HNO HYES
          go_wp2_with fail
          try go_region
          all_goals go_wp2
          all_goals go_ret2
          all_goals exact ⟨⟨[], _, _, rfl, World.ownsRow_nil _ _ _ _, .inr ⟨⟨_, _, _, rfl⟩, HR.out⟩⟩, by first | exact hB3 | exact hB3.drew⟩
      · obtain rfl : k = ms.length := by omega
        have HR : Hid (IsPT fs ms) := HYES.out _ HP.out (fun i hi => hfr.out i hi)
        clear HNO HYES
        go_wp2
        go_ret2
        exact ⟨⟨ms, _, _, rfl, hownr, .inl ⟨rfl, HR.out⟩⟩, hBr⟩
   · have HR : Hid (IsPT fs []) := HNO.out _ _ hp (by simp)
     clear hp HNO HYES
     go_wp2
     go_ret2
     exact ⟨⟨[], _, _, rfl, World.ownsRow_nil _ _ _ _, .inr ⟨⟨n, ty, va, rfl⟩, HR.out⟩⟩, hB2⟩
end Go.Proofs.YtboojefodbjbcaaGreatDoor.G
namespace Go.Proofs.YtboojefodbjbcaaGreatDoor.G.T
open Go.RowKit
set_option maxHeartbeats 1000000 in
theorem c105 (a : Option Addr) (cap : Nat) (fs : List F2) (nm : ByteArray) (w : World) (hl : fs.length ≤ 1048576) (hat : FilesAt w a fs) :
 Calls Tryz.prog 105 #[.agg #[.slice a fs.length cap], .string nm] w fun e w' => (∃ r : Int, e = .returned (.int .i64 r) ∧ ((r = -1 ∧ ∀ i, i < fs.length → (fs.getD i f2z).nm ≠ nm) ∨ ∃ i : Nat, r = i ∧ i < fs.length ∧ (fs.getD i f2z).nm = nm)) ∧ Below w.heap.size w w' := by
 obtain ⟨b, off, hc⟩ := files_some hat
 have HC : Hid (fs = [] ∨ (a = some ⟨b, off, none⟩ ∧ b < w.heap.size ∧ ∀ i, i < fs.length → w.cell? ⟨b, off + i * 2, none⟩ = some (.string (fs.getD i f2z).nm) ∧ w.cell? ⟨b, off + i * 2 + 1, none⟩ = some (.string (fs.getD i f2z).tx))) := hc
 have HB : Below w.heap.size w (w.alloc (.cells #[.slice a fs.length cap] 49)) := (Below.refl _ _).alloc (Nat.le_refl _) _
 clear hc hat
 go_enter Tryz.func105, Tryz.ntmps105
 go_wp2_with fail
 go_loop [5] (fun i => ∃ k : Nat, k ≤ fs.length ∧ i = .int .i64 k ∧ Hid (∀ j, j < k → (fs.getD j f2z).nm ≠ nm)) (fun i => fs.length - (intOf i).toNat)
 case atStart => exact ⟨0, Nat.zero_le _, rfl, fun j h => absurd h (Nat.not_lt_zero _)⟩
 case round =>
  obtain ⟨k, hk, rfl, hno⟩ := hrel
  by_cases hlt : k < fs.length
  · rcases HC.out with hss | ⟨ha, hbw, hcell⟩
    · rw [hss] at hlt; exact absurd hlt (Nat.not_lt_zero _)
    subst ha
    have g0 := (HB.cell (p := ⟨b, off + k * 2, none⟩) hbw).trans (hcell k hlt).1
    have HX : Hid (∃ x, x = fs.getD k f2z) := ⟨_, rfl⟩
    obtain ⟨x, hx⟩ := HX.out
    rw [← hx] at g0
    have HXE : Hid (x = fs.getD k f2z) := hx
    clear hcell hx HX
    cases hq : (x.nm.toList == nm.toList)
    · have hno' : Hid (∀ j, j < k + 1 → (fs.getD j f2z).nm ≠ nm) := fun j hj => by
       rcases Nat.lt_or_ge j k with h | h
       · exact hno.out j h
       · obtain rfl : j = k := by omega
         rw [← HXE.out]
         intro e
         rw [e] at hq
         simp at hq
      go_wp2
      go_round
      case rel => exact ⟨k + 1, by omega, by go_num, hno'⟩
      case measure => simp [intOf]; omega
    · have he : x.nm = nm := by
       have := beq_iff_eq.1 hq
       rw [ByteArray.toList_eq, ByteArray.toList_eq] at this
       exact ByteArray.ext (Array.toList_inj.1 this)
      have HR : Hid (∃ i : Nat, (k : Int) = i ∧ i < fs.length ∧ (fs.getD i f2z).nm = nm) := ⟨k, rfl, hlt, by rw [← HXE.out]; exact he⟩
      clear he
      go_wp2
      go_ret
      exact ⟨⟨_, rfl, .inr HR.out⟩, HB⟩
  · go_wp2
    go_ret
    exact ⟨⟨-1, rfl, .inl ⟨rfl, fun i hi => hno.out i (by omega)⟩⟩, HB⟩
end Go.Proofs.YtboojefodbjbcaaGreatDoor.G.T
