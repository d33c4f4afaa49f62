import Derived.Test.YtboojefodbjbcaaGreatDoorZR22
import Derived.WalkKit
import Derived.WalkSpells
import Derived.WalkLawsBesides
import Derived.Laws.BytesArg
import Derived.Deep.RegionWith
import Derived.Deep.QuietTactic
import Derived.BigQuiet
import Derived.Laws.BitsAllLaws
import Derived.Deep.RegionLaw
import Derived.Deep.RegionHeld3
import Derived.Laws.Cover1
namespace Go.Proofs.YtboojefodbjbcaaGreatDoor
open Go.RowKit
set_option maxRecDepth 100000
def GlOk (W : Int) (g : G3) : Prop := nameOk g.tl.data.toList = true ∧ (g.ar.size : Int) = W
def RecOk (W : Int) (x : R3) : Prop := (x.key.size ≤ 321 ∧ (x.out.size : Int) = W ∧ x.gs.length ≤ 15) ∧ ∀ i, i < x.gs.length → GlOk W (x.gs.getD i g3z)
def RecsOk (W : Int) (rs : List R3) : Prop := rs.length ≤ 150 ∧ ∀ i, i < rs.length → RecOk W (rs.getD i r3z)
def StepT (ts : List ByteArray) (W : Int) (k : Nat) : Prop := (∃ c t, IsR (ts.getD k ByteArray.empty).data.toList c t true) ∧ (k = 0 ∨ Op.bytesLess (sumS (ts.getD (k - 1) ByteArray.empty) W).toList (sumS (ts.getD k ByteArray.empty) W).toList = true)
def TextsOk (ts : List ByteArray) (W : Int) : Prop := ts.length ≤ 300 ∧ ∀ k, k < ts.length → StepT ts W k
def StOk (s : St) : Prop := (1 ≤ s.wd ∧ s.wd ≤ 8) ∧ TextsOk s.ts s.wd ∧ RecsOk s.wd s.rs
theorem isR_flag {l t : List UInt8} {c : Int} {ok : Bool} (h : IsR l c t ok) : ok = true ↔ ∃ c t, IsR l c t true := by
 constructor
 · rintro rfl; exact ⟨c, t, h⟩
 · rintro ⟨c', t', h'⟩; exact (isR_one h h').2.2
theorem sumS_size {s : ByteArray} {n : Int} (h : 1 ≤ n ∧ n ≤ 8) : (sumS s n).size = n.toNat := by
 unfold sumS; rw [if_pos h, strOfNums_size, outs_length]
theorem less_nil {s : ByteArray} (h : 1 ≤ s.size) : Op.bytesLess (⟨#[]⟩ : ByteArray).toList s.toList = true := by
 have h0 : (⟨#[]⟩ : ByteArray).toList = [] := by rw [ByteArray.toList_eq]
 rw [h0]
 cases hl : s.toList with
 | nil =>
  rw [ByteArray.toList_eq] at hl
  have : s.data.toList.length = s.size := by simp
  rw [hl] at this; simp at this; omega
 | cons c r => rfl
def Rb (P : Prop) (e : Ending) : Prop := ∃ b : Bool, e = .returned (.bool b) ∧ (b = true ↔ P)
theorem rb_no {P : Prop} (h : ¬ P) : Rb P (.returned (.bool false)) := ⟨false, rfl, (fun h => by cases h), fun p => absurd p h⟩
theorem rb_yes {P : Prop} (h : P) : Rb P (.returned (.bool true)) := ⟨true, rfl, fun _ => h, fun _ => rfl⟩
set_option maxHeartbeats 2000000 in
theorem c111 (x : R3) (ai : Option Addr) (ci : Nat) (W : Int) (w : World) (hs : x.le 1048576) (hat : GlsAt w ai x.gs) :
 Calls Tryz.prog 111 #[.agg #[.string x.key, .slice ai x.gs.length ci, .string x.out], .int .i64 W] w fun e w' => Rb (RecOk W x) e ∧ Below w.heap.size w w' := by
 obtain ⟨s1, s2, s3, s4⟩ := hs
 have HS : Hid (∀ i, (x.gs.getD i g3z).le 1048576) := s3
 clear s3
 have hB0 : Below w.heap.size w (w.alloc (.cells #[.string x.key, .slice ai x.gs.length ci, .string x.out] 82)) := (Below.refl _ _).alloc (Nat.le_refl _) _
 by_cases h : x.key.size ≤ 321 ∧ (x.out.size : Int) = W ∧ x.gs.length ≤ 15
 · obtain ⟨h1, h2, h3⟩ := h
   obtain ⟨b, off, hc⟩ := gls_some hat
   have HC : Hid (x.gs = [] ∨ (ai = some ⟨b, off, none⟩ ∧ b < w.heap.size ∧ ∀ i, i < x.gs.length → w.cell? ⟨b, off + i * 3, none⟩ = some (.bool (x.gs.getD i g3z).nm) ∧ w.cell? ⟨b, off + i * 3 + 1, none⟩ = some (.string (x.gs.getD i g3z).tl) ∧ w.cell? ⟨b, off + i * 3 + 2, none⟩ = some (.string (x.gs.getD i g3z).ar))) := hc
   have HH : Hid (x.key.size ≤ 321 ∧ (x.out.size : Int) = W ∧ x.gs.length ≤ 15) := ⟨h1, h2, h3⟩
   clear hc hat
   go_enter Tryz.func111, Tryz.ntmps111
   go_wp2_with fail
   go_loopw [27] (fun i wr => ∃ (k : Nat), k ≤ x.gs.length ∧ i = .int .i64 k ∧ Hid (∀ j, j < k → GlOk W (x.gs.getD j g3z)) ∧ Below w.heap.size w wr) (fun i _ => x.gs.length - (intOf i).toNat)
   case atStart => exact ⟨0, Nat.zero_le _, rfl, fun j h => absurd h (Nat.not_lt_zero _), hB0⟩
   case round =>
    obtain ⟨k, hk, rfl, hdone, hb⟩ := hrel
    by_cases hlt : k < x.gs.length
    · rcases HC.out with hss | ⟨ha, hbw, hcell⟩
      · rw [hss] at hlt; exact absurd hlt (Nat.not_lt_zero _)
      subst ha
      have g0 := (hb.cell (p := ⟨b, off + k * 3, none⟩) hbw).trans (hcell k hlt).1
      have g1 := (hb.cell (p := ⟨b, off + k * 3 + 1, none⟩) hbw).trans (hcell k hlt).2.1
      have g2 := (hb.cell (p := ⟨b, off + k * 3 + 2, none⟩) hbw).trans (hcell k hlt).2.2
      obtain ⟨gs1, gs2⟩ := HS.out k
      have hzw : w.heap.size ≤ wr.heap.size := hb.size
      generalize hx : x.gs.getD k g3z = y at *
      have HX : Hid (x.gs.getD k g3z = y) := hx
      clear hx hcell
      have hA : Below w.heap.size w (wr.alloc (.cells #[.bool y.nm, .string y.tl, .string y.ar] 127)) := hb.alloc hb.size _
      go_wp2_with fail
      refine (c80 y.tl _ (by omega)).mono ?_
      rintro e w1 ⟨rfl, hw1⟩
      obtain rfl := hw1
      cases hn : nameOk y.tl.data.toList
      · have HR : Hid (¬ RecOk W x) := fun h => by have := (h.2 k hlt).1; rw [HX.out, hn] at this; cases this
        go_wp2
        go_ret
        exact ⟨rb_no HR.out, hA⟩
      · by_cases hw : (y.ar.size : Int) = W
        · have hd' : Hid (∀ j, j < k + 1 → GlOk W (x.gs.getD j g3z)) := fun j hj => by
           rcases Nat.lt_or_ge j k with h | h
           · exact hdone.out j h
           · obtain rfl : j = k := by omega
             rw [HX.out]; exact ⟨hn, hw⟩
          clear hn
          go_wp2
          go_roundw
          case rel => exact ⟨k + 1, by omega, by go_num, hd', hA⟩
          case measure => simp [intOf]; omega
        · have HR : Hid (¬ RecOk W x) := fun h => hw (by have := (h.2 k hlt).2; rw [HX.out] at this; exact this)
          have hw' : ((y.ar.size : Int) != W) = true := by simpa using hw
          have hw2 : ((y.ar.size : Int) == W) = false := by simpa using hw
          clear hn
          go_wp2
          go_ret
          exact ⟨rb_no HR.out, hA⟩
    · have HR : Hid (RecOk W x) := ⟨HH.out, fun i hi => hdone.out i (by omega)⟩
      go_wp2
      go_ret
      exact ⟨rb_yes HR.out, hb⟩
 · have HR : Hid (¬ RecOk W x) := fun h' => h h'.1
   clear hat
   by_cases h1 : x.key.size ≤ 321
   · by_cases h2 : (x.out.size : Int) = W
     · have h3 : 15 < x.gs.length := by
        rcases Nat.lt_or_ge 15 x.gs.length with h3 | h3
        · exact h3
        · exact absurd ⟨h1, h2, h3⟩ h
       clear h
       go_enter Tryz.func111, Tryz.ntmps111
       go_wp2
       go_ret
       exact ⟨rb_no HR.out, hB0⟩
     · have h2' : ((x.out.size : Int) != W) = true := by simpa using h2
       have h2'' : ((x.out.size : Int) == W) = false := by simpa using h2
       clear h
       go_enter Tryz.func111, Tryz.ntmps111
       go_wp2
       go_ret
       exact ⟨rb_no HR.out, hB0⟩
   · clear h
     go_enter Tryz.func111, Tryz.ntmps111
     go_wp2
     go_ret
     exact ⟨rb_no HR.out, hB0⟩
set_option maxHeartbeats 2000000 in
theorem c84 (a : Option Addr) (cap : Nat) (is : List R3) (W : Int) (w : World) (hl : is.length ≤ 1048576) (hs : ∀ i, (is.getD i r3z).le 1048576) (hat : RecsAt w a is) :
 Calls Tryz.prog 84 #[.slice a is.length cap, .int .i64 W] w fun e w' => Rb (RecsOk W is) e ∧ Below w.heap.size w w' := by
 obtain ⟨b, off, hc⟩ := recs_some hat
 have HC : Hid (is = [] ∨ (a = some ⟨b, off, none⟩ ∧ b < w.heap.size ∧ ∀ i, i < is.length → RecAt w b (off + i * 3) (is.getD i r3z))) := hc
 have HS : Hid (∀ i, (is.getD i r3z).le 1048576) := hs
 clear hc hat hs
 by_cases hbig : 150 < is.length
 · have HR : Hid (¬ RecsOk W is) := fun h => by have := h.1; omega
   go_enter Tryz.func84, Tryz.ntmps84
   go_wp2
   go_ret
   exact ⟨rb_no HR.out, Below.refl _ _⟩
 · go_enter Tryz.func84, Tryz.ntmps84
   go_wp2_with fail
   go_loopw [12] (fun i wr => ∃ (k : Nat), k ≤ is.length ∧ i = .int .i64 k ∧ Hid (∀ j, j < k → RecOk W (is.getD j r3z)) ∧ Below w.heap.size w wr) (fun i _ => is.length - (intOf i).toNat)
   case atStart => exact ⟨0, Nat.zero_le _, rfl, fun j h => absurd h (Nat.not_lt_zero _), Below.refl _ _⟩
   case round =>
    obtain ⟨k, hk, rfl, hdone, hb⟩ := hrel
    by_cases hlt : k < is.length
    · rcases HC.out with hss | ⟨ha, hbw, hcell⟩
      · rw [hss] at hlt; exact absurd hlt (Nat.not_lt_zero _)
      subst ha
      have hzw : w.heap.size ≤ wr.heap.size := hb.size
      obtain ⟨ai, ci, e0, e1, e2, e3⟩ := (hcell k hlt).below hbw hb
      have hxs := HS.out k
      generalize hx : is.getD k r3z = x at *
      have HX : Hid (is.getD k r3z = x) := hx
      clear hx hcell
      have hAr : ∀ o, Below wr.heap.size wr (wr.alloc o) := fun o => (Below.refl _ _).alloc (Nat.le_refl _) _
      have h38 := fun o => c111 x ai ci W (wr.alloc o) hxs (gls_below e3 (hAr o))
      clear e3
      go_wp2_with fail
      refine (h38 _).mono ?_
      rintro e w1 ⟨⟨bb, rfl, hbb⟩, hb1⟩
      have hB1 : Below w.heap.size w w1 := hb.trans (((hAr _).trans (hb1.mono (by simp))).mono hb.size)
      clear h38
      cases bb
      · have HR : Hid (¬ RecsOk W is) := fun h => by have := hbb.2 (HX.out ▸ h.2 k hlt); cases this
        clear hbb
        go_wp2
        go_ret
        exact ⟨rb_no HR.out, hB1⟩
      · have hd' : Hid (∀ j, j < k + 1 → RecOk W (is.getD j r3z)) := fun j hj => by
         rcases Nat.lt_or_ge j k with h | h
         · exact hdone.out j h
         · obtain rfl : j = k := by omega
           rw [HX.out]; exact hbb.1 rfl
        clear hbb
        go_wp2
        go_roundw
        case rel => exact ⟨k + 1, by omega, by go_num, hd', hB1⟩
        case measure => simp [intOf]; omega
    · have HR : Hid (RecsOk W is) := ⟨by omega, fun i hi => hdone.out i (by omega)⟩
      go_wp2
      go_ret
      exact ⟨rb_yes HR.out, hb⟩
end Go.Proofs.YtboojefodbjbcaaGreatDoor
namespace Go.Proofs.YtboojefodbjbcaaGreatDoor
open Go.RowKit
set_option maxRecDepth 100000
theorem hidI {p : Prop} (h : p) : Hid p := h
theorem list_ne {s t : ByteArray} (h : ¬ s = t) : ¬ s.toList = t.toList := fun e => h (by
 apply ByteArray.ext
 rw [ByteArray.toList_eq, ByteArray.toList_eq] at e
 exact Array.toList_inj.1 e)
end Go.Proofs.YtboojefodbjbcaaGreatDoor
namespace Go.Proofs.YtboojefodbjbcaaGreatDoor
open Go.RowKit
set_option maxRecDepth 100000
set_option maxHeartbeats 1000000 in
theorem c174 (c : Int) (w : World) (hc : c = 0 ∨ c = 1 ∨ c = 2 ∨ c = 3 ∨ c = 4 ∨ c = 5 ∨ c = 7) :
 Calls Tryz.prog 174 #[.int .i64 c] w fun e w' => e = .returned (.string (ofL [UInt8.ofNat (48 + c).toNat])) ∧ w' = w := by
 rcases hc with rfl | rfl | rfl | rfl | rfl | rfl | rfl
 all_goals
  go_enter Tryz.func174, Tryz.ntmps174
  go_wp2
  go_ret
  exact ⟨rfl, rfl⟩
set_option maxHeartbeats 1000000 in
theorem c172 (c : Int) (w : World) (hc : c = 0 ∨ c = 1 ∨ c = 2 ∨ c = 3 ∨ c = 4 ∨ c = 5 ∨ c = 7) :
 Calls Tryz.prog 172 #[.int .i64 c, .int .i64 10] w fun e w' => e = .returned (.string (ofL [UInt8.ofNat (48 + c).toNat])) ∧ w' = w := by
 have h1 : 0 ≤ c := by omega
 have h2 : c < 100 := by omega
 have H := c174 c w hc
 clear hc
 go_enter Tryz.func172, Tryz.ntmps172
 go_wp2_with (go_at_call 174; refine H.mono ?_; rintro e w' ⟨rfl, rfl⟩)
 go_ret
 exact ⟨rfl, rfl⟩
set_option maxHeartbeats 1000000 in
theorem c169 (c : Int) (w : World) (hc : c = 0 ∨ c = 1 ∨ c = 2 ∨ c = 3 ∨ c = 4 ∨ c = 5 ∨ c = 7) :
 Calls Tryz.prog 169 #[.int .i64 c] w fun e w' => e = .returned (.string (ofL [UInt8.ofNat (48 + c).toNat])) ∧ w' = w := by
 have H := c172 c w hc
 go_enter Tryz.func169, Tryz.ntmps169
 go_wp2_with (go_at_call 172; refine H.mono ?_; rintro e w' ⟨rfl, rfl⟩)
 go_ret
 exact ⟨rfl, rfl⟩
set_option maxHeartbeats 1000000 in
theorem c161 (c : Int) (w : World) (hc : c = 0 ∨ c = 1 ∨ c = 2 ∨ c = 3 ∨ c = 4 ∨ c = 5 ∨ c = 7) :
 Calls Tryz.prog 161 #[.int .i64 c] w fun e w' => e = .returned (.string (ofL [UInt8.ofNat (48 + c).toNat])) ∧ w' = w := by
 have H := c169 c w hc
 go_enter Tryz.func161, Tryz.ntmps161
 go_wp2_with (go_at_call 169; refine H.mono ?_; rintro e w' ⟨rfl, rfl⟩)
 go_ret
 exact ⟨rfl, rfl⟩
set_option maxHeartbeats 1000000 in
theorem c147 (c : Int) (s : ByteArray) (w : World) (hs : s.size ≤ 1048700) :
 Calls Tryz.prog 147 #[.agg #[.int .i64 c, .string s]] w fun e w' => e = .returned (.string (ofL (formR c s.data.toList))) ∧ Below w.heap.size w w' := by
 go_enter Tryz.func147, Tryz.ntmps147
 go_wp2_with fail
 refine (c81 _ _ _ hs).mono ?_
 rintro e w1 ⟨rfl, hb1⟩
 have hB1 := ((Below.refl w.heap.size w).alloc (Nat.le_refl _) (.cells #[.int .i64 c, .string s] 37)).trans (hb1.mono (by simp))
 have g10 : w1.cell? ⟨w.heap.size, 0, none⟩ = some (.int .i64 c) := by rw [hb1.cell (by simp)]; simp
 have g11 : w1.cell? ⟨w.heap.size, 1, none⟩ = some (.string s) := by rw [hb1.cell (by simp)]; simp
 cases hv : vr c s.data.toList
 · have hF := form_no hv
   go_wp2
   go_ret
   exact ⟨hF, hB1⟩
 · have hc := vr_code hv
   have hF : Hid (ofL (formR c s.data.toList) = ofL [UInt8.ofNat (48 + c).toNat] ++ ⟨#[58]⟩ ++ s) := form_yes hv
   have hz : (ofL [UInt8.ofNat (48 + c).toNat]).size = 1 := rfl
   clear hv
   go_wp2_with fail
   go_region_with (go_at_call 161; refine (c161 _ _ hc).mono ?_; rintro e w' ⟨rfl, rfl⟩)
   all_goals go_wp2
   all_goals go_ret
   all_goals exact ⟨by rw [hF.out]; rfl, by first | exact hB1 | exact hB1.drew⟩
end Go.Proofs.YtboojefodbjbcaaGreatDoor
namespace Go.Proofs.YtboojefodbjbcaaGreatDoor
open Go.RowKit
set_option maxRecDepth 100000
structure M3 where
 nm : ByteArray
 tl : ByteArray
 ar : ByteArray
def M3.v (x : M3) : Value := .agg #[.string x.nm, .string x.tl, .string x.ar]
def M3.le (x : M3) (B : Nat) : Prop := x.nm.size ≤ B ∧ x.tl.size ≤ B ∧ x.ar.size ≤ B
end Go.Proofs.YtboojefodbjbcaaGreatDoor
namespace Go.Proofs.YtboojefodbjbcaaGreatDoor
open Go.RowKit
set_option maxRecDepth 100000
structure L4 where
 has : Bool
 nm : ByteArray
 cd : Int
 tx : ByteArray
def l4z : L4 := ⟨false, ⟨#[]⟩, 0, ⟨#[]⟩⟩
def L4.le (x : L4) (B : Nat) : Prop := x.nm.size ≤ B ∧ x.tx.size ≤ B
def LksAt (w : World) (a : Option Addr) (is : List L4) : Prop :=
 is = [] ∨ ∃ b off, a = some ⟨b, off, none⟩ ∧ b < w.heap.size ∧ ∀ i, i < is.length → w.cell? ⟨b, off + i * 4, none⟩ = some (.bool (is.getD i l4z).has) ∧ w.cell? ⟨b, off + i * 4 + 1, none⟩ = some (.string (is.getD i l4z).nm) ∧ w.cell? ⟨b, off + i * 4 + 2, none⟩ = some (.int .i64 (is.getD i l4z).cd) ∧ w.cell? ⟨b, off + i * 4 + 3, none⟩ = some (.string (is.getD i l4z).tx)
theorem lks_some {w : World} {a : Option Addr} {is : List L4} (h : LksAt w a is) : ∃ b off, (is = [] ∨ (a = some ⟨b, off, none⟩ ∧ b < w.heap.size ∧ ∀ i, i < is.length → w.cell? ⟨b, off + i * 4, none⟩ = some (.bool (is.getD i l4z).has) ∧ w.cell? ⟨b, off + i * 4 + 1, none⟩ = some (.string (is.getD i l4z).nm) ∧ w.cell? ⟨b, off + i * 4 + 2, none⟩ = some (.int .i64 (is.getD i l4z).cd) ∧ w.cell? ⟨b, off + i * 4 + 3, none⟩ = some (.string (is.getD i l4z).tx))) := by
 rcases h with h | ⟨b, off, h⟩
 · exact ⟨0, 0, .inl h⟩
 · exact ⟨b, off, .inr h⟩
theorem lks_below {w w' : World} {a : Option Addr} {is : List L4} (h : LksAt w a is) (hb : Below w.heap.size w w') : LksAt w' a is := by
 rcases h with h | ⟨b, off, h1, h2, h3⟩
 · exact .inl h
 · exact .inr ⟨b, off, h1, Nat.lt_of_lt_of_le h2 hb.size, fun i hi => by rw [hb.cell (by exact h2), hb.cell (by exact h2), hb.cell (by exact h2), hb.cell (by exact h2)]; exact h3 i hi⟩
set_option maxHeartbeats 1000000 in
theorem c52 (x : L4) (w : World) :
 Calls Tryz.prog 52 #[.agg #[.bool x.has, .string x.nm, .int .i64 x.cd, .string x.tx], .agg #[.bool x.has, .string x.nm, .int .i64 x.cd, .string x.tx]] w fun e w' => e = .returned (.bool true) ∧ Below w.heap.size w w' := by
 go_enter Tryz.func52, Tryz.ntmps52
 go_wp2_with fail
 have hB : ∀ o1 o2, Below w.heap.size w ((w.alloc o1).alloc o2) := fun o1 o2 => ((Below.refl _ _).alloc (Nat.le_refl _) _).alloc (by simp) _
 refine (c51 x.cd x.tx _).mono ?_
 rintro e w1 ⟨rfl, hb1⟩
 go_wp2
 go_ret
 exact ⟨rfl, (hB _ _).trans (hb1.mono (by simp; omega))⟩
end Go.Proofs.YtboojefodbjbcaaGreatDoor
namespace Go.Proofs.YtboojefodbjbcaaGreatDoor
open Go.RowKit
set_option maxRecDepth 100000
theorem ret_str {a b : ByteArray} (h : a = b) : Ending.returned (.string a) = .returned (.string b) := by rw [h]
end Go.Proofs.YtboojefodbjbcaaGreatDoor
namespace Go.Proofs.YtboojefodbjbcaaGreatDoor
open Go.RowKit
set_option maxRecDepth 100000
end Go.Proofs.YtboojefodbjbcaaGreatDoor
namespace Go.Proofs.YtboojefodbjbcaaGreatDoor
set_option linter.unusedSimpArgs false
open Go.RowKit
set_option maxRecDepth 100000
def okM (x : M3) : Bool := nameOk x.nm.data.toList && nameOk x.tl.data.toList && decide ((x.ar.size : Int) ≤ 300)
set_option maxHeartbeats 1000000 in
theorem c30 (x : M3) (w : World) (hs : x.le 1048700) :
 Calls Tryz.prog 30 #[.agg #[.string x.nm, .string x.tl, .string x.ar]] w fun e w' => e = .returned (.bool (okM x)) ∧ Below w.heap.size w w' := by
 have HF : Hid (okM x = (nameOk x.nm.data.toList && nameOk x.tl.data.toList && decide ((x.ar.size : Int) ≤ 300))) := rfl
 obtain ⟨h1, h2, h3⟩ := hs
 go_enter Tryz.func30, Tryz.ntmps30
 go_wp2_with fail
 refine (c31 _ _ h1).mono ?_
 rintro e w1 ⟨rfl, rfl⟩
 cases hn : nameOk x.nm.data.toList
 · rw [hn] at HF
   go_wp2
   all_goals go_ret
   all_goals exact ⟨ret_bool (by rw [HF.out]; simp), (Below.refl _ _).alloc (Nat.le_refl _) _⟩
 · rw [hn] at HF
   go_wp2_with fail
   refine (c31 _ _ h2).mono ?_
   rintro e w1 ⟨rfl, rfl⟩
   cases hm : nameOk x.tl.data.toList
   all_goals
    rw [hm] at HF
    go_wp2
    all_goals go_ret
    all_goals exact ⟨ret_bool (by rw [HF.out]; simp), (Below.refl _ _).alloc (Nat.le_refl _) _⟩
set_option maxHeartbeats 1000000 in
theorem c43 (x : M3) (w : World) (hs : x.le 1048700) :
 Calls Tryz.prog 43 #[.agg #[.string x.nm, .string x.tl, .string x.ar]] w fun e w' => e = .returned (.bool (okM x)) ∧ Below w.heap.size w w' := by
 have HF : Hid (okM x = (nameOk x.nm.data.toList && nameOk x.tl.data.toList && decide ((x.ar.size : Int) ≤ 300))) := rfl
 obtain ⟨h1, h2, h3⟩ := hs
 go_enter Tryz.func43, Tryz.ntmps43
 go_wp2_with fail
 refine (c80 _ _ h1).mono ?_
 rintro e w1 ⟨rfl, rfl⟩
 cases hn : nameOk x.nm.data.toList
 · rw [hn] at HF
   go_wp2
   all_goals go_ret
   all_goals exact ⟨ret_bool (by rw [HF.out]; simp), (Below.refl _ _).alloc (Nat.le_refl _) _⟩
 · rw [hn] at HF
   go_wp2_with fail
   refine (c80 _ _ h2).mono ?_
   rintro e w1 ⟨rfl, rfl⟩
   cases hm : nameOk x.tl.data.toList
   all_goals
    rw [hm] at HF
    go_wp2
    all_goals go_ret
    all_goals exact ⟨ret_bool (by rw [HF.out]; simp), (Below.refl _ _).alloc (Nat.le_refl _) _⟩
end Go.Proofs.YtboojefodbjbcaaGreatDoor
