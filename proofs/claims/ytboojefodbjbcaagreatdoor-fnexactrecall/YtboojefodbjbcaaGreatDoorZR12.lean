import Derived.Test.YtboojefodbjbcaaGreatDoorZR11
import Derived.Test.YtboojefodbjbcaaGreatDoorZR07
import Derived.Test.YtboojefodbjbcaaGreatDoorZR04
namespace Go.Proofs.YtboojefodbjbcaaGreatDoor.G
open Go.RowKit
set_option maxHeartbeats 4000000 in
set_option maxRecDepth 100000 in
theorem c112_short (S : List UInt8) (w : World) (h300 : S.length ≤ 300) (hv : VarsR w) :
 Calls Tryz.prog 112 #[.string (ofL S)] w fun e w' => Is28 w S e w' ∧ Below w.heap.size w w' := by
 have HV : Hid (VarsR w) := hv
 clear hv
 have hz : (ofL S).size ≤ 300 := by rw [ofL_size]; exact h300
 obtain ⟨i0, hi, hz0, hz1, hz2⟩ := info_parts info51
 go_enter Tryz.func112, Tryz.ntmps112
 go_wp2_with fail
 go_loopw [4, 5] (fun v r wr => ∃ (l : List UInt8) (ms : List M3), r = .string (ofL l) ∧ Hid (Way S ms l) ∧ wr.ownsRow w.heap.size 51 3 v ms.length (mkCells ms) ∧ Below w.heap.size w wr) (fun _ r _ => strOf r)
 case atStart => exact ⟨S, [], rfl, way_start _, World.ownsRow_nil _ _ _ _, Below.refl _ _⟩
 case round =>
  obtain ⟨l, ms, rfl, hway, hown, hb⟩ := hrel
  have hVr : Hid (VarsR wr) := HV.out.below hb
  obtain ⟨hwl, hwt⟩ := way_len hway.out
  by_cases hl : l = []
  · subst hl
    have hnl : (ofL []).toList = [] := by rw [ByteArray.toList_eq]; rfl
    obtain ⟨W1, W2⟩ := way_end hway.out h300
    have HW1 : Hid (planOk ms = true → IsPlan S ms true) := W1
    have HW2 : Hid (planOk ms = false → IsPlan S [] false) := W2
    clear W1 W2
    obtain ⟨ao, cp, hv, hat⟩ := own3_form hown
    subst hv
    obtain ⟨u0, x0, k0⟩ := hVr.out.va.g0
    obtain ⟨u1, x1, k1⟩ := hVr.out.va.g1
    obtain ⟨u2, x2, k2⟩ := hVr.out.va.g2
    have HC := c125 ao cp ms wr (fun i => ⟨by have := (hwt i).1; omega, by have := (hwt i).2.1; omega, by have := (hwt i).2.2; omega⟩) (by omega) hat _ _ _ _ _ _ k0 k1 k2
    clear hat hway k0 k1 k2
    go_wp2_with fail
    refine HC.mono ?_
    rintro e w5 ⟨hck, hb5⟩
    have hB5 : Below w.heap.size w w5 := hb.trans (hb5.mono hb.size)
    have hown5 : w5.ownsRow w.heap.size 51 3 (.slice ao ms.length cp) ms.length (mkCells ms) := ownsRow_below hown hb5
    rcases hck with ⟨hk, rfl⟩ | ⟨hk, n, ty, va, rfl⟩
    · have HR : Hid (IsPlan S ms true) := HW1.out hk
      clear HW1 HW2 hk HC
      go_wp2
      go_ret2
      exact ⟨⟨ms, _, _, rfl, hown5, .inl ⟨rfl, HR.out⟩⟩, hB5⟩
    · have HR : Hid (IsPlan S [] false) := HW2.out hk
      clear HW1 HW2 hk HC
      go_wp2
      go_ret2
      exact ⟨⟨ms, _, _, rfl, hown5, .inr ⟨⟨n, ty, va, rfl⟩, HR.out⟩⟩, hB5⟩
  · have e0 : (ofL l).toList.isEmpty = false := by
     rw [ByteArray.toList_eq]
     cases l with
     | nil => exact absurd rfl hl
     | cons a r => rfl
    have e1 : ¬ (ofL l).toList = [] := fun h => by rw [h] at e0; cases e0
    obtain ⟨ao, cp, hv⟩ := row_form3 hown
    subst hv
    go_wp2_with fail
    refine (c115n l _ (by omega) hVr.out.mx).mono ?_
    rintro e w1 ⟨rfl, hb1⟩
    have hB1 : Below w.heap.size w w1 := hb.trans (hb1.mono hb.size)
    have hc := cut_10 l
    have hcl : (Lib.cut l [10]).1.length ≤ 300 := by
     rcases hc with ⟨_, h, _⟩ | ⟨_, h, _⟩
     · have := congrArg List.length h
       rw [List.length_append] at this; omega
     · rw [h]; omega
    have HC : Hid (((Lib.cut l [10]).2.2 = true ∧ l = (Lib.cut l [10]).1 ++ 10 :: (Lib.cut l [10]).2.1 ∧ (10 : UInt8) ∉ (Lib.cut l [10]).1) ∨ ((Lib.cut l [10]).2.2 = false ∧ (Lib.cut l [10]).1 = l ∧ (10 : UInt8) ∉ l)) := hc
    clear hc
    generalize (Lib.cut l [10]).1 = ca at *
    generalize (Lib.cut l [10]).2.1 = cb at *
    generalize (Lib.cut l [10]).2.2 = cf at *
    have hV1 : Hid (VarsR w1) := HV.out.below hB1
    cases cf
    · have HR : Hid (IsPlan S [] false) := by
       refine way_stuck hway.out hl (fun y q hy e => ?_)
       rcases HC.out with ⟨h1, _⟩ | ⟨_, _, h3⟩
       · cases h1
       · apply h3; rw [e]; simp
      obtain ⟨t4, v4, g4⟩ := hV1.out.g4
      clear HC hway
      go_wp2_with fail
      go_region
      all_goals go_wp2
      all_goals go_ret2
      all_goals exact ⟨is28_no _ _ _ HR.out, by first | exact hB1 | exact hB1.drew⟩
    · have HL : Hid (l = ca ++ 10 :: cb ∧ (10 : UInt8) ∉ ca) := by
       rcases HC.out with ⟨_, h⟩ | ⟨h, _⟩
       · exact h
       · cases h
      clear HC
      go_wp2_with fail
      refine (c115w ca _ (by omega) hV1.out.mx).mono ?_
      rintro e w2 ⟨⟨y2, rfl⟩, hb2⟩
      have hB2 : Below w.heap.size w w2 := hB1.trans (hb2.mono hB1.size)
      have hV2 : Hid (VarsR w2) := HV.out.below hB2
      have hrs := rest_small ca
      go_wp2_with fail
      refine (c124 _ _ (by omega) hV2.out.mx).mono ?_
      rintro e w3 ⟨⟨x, ok, rfl, hbody⟩, hb3⟩
      have hB3 : Below w.heap.size w w3 := hB2.trans (hb3.mono hB2.size)
      have hbr3 : Below wr.heap.size wr w3 := hb1.trans ((hb2.trans (hb3.mono hb2.size)).mono hb1.size)
      have hV3 : Hid (VarsR w3) := HV.out.below hB3
      have hown3 : w3.ownsRow w.heap.size 51 3 (.slice ao ms.length cp) ms.length (mkCells ms) := ownsRow_below hown hbr3
      have hz3 : w.heap.size ≤ w3.heap.size := hB3.size
      obtain ⟨t5, v5, g5⟩ := hV3.out.g5
      have g5' := past (by show 3 < w3.heap.size; have := hV3.out.mx.1; omega) g5
      have FAIL : Hid (¬ (wordOf ca = [109, 97, 107, 101] ∧ ok = true) → IsPlan S [] false) := by
       intro hf
       refine way_stuck hway.out hl (fun y q hy e => hf ?_)
       have hca := (split10 HL.out.2 (body_no10 hy) (HL.out.1.symm.trans e)).1
       obtain ⟨h1, h2⟩ := (line_is hy).1 hca
       refine ⟨h1, ?_⟩
       cases ok
       · exact absurd h2 (hbody.2 rfl y hy)
       · rfl
      have GO : Hid (wordOf ca = [109, 97, 107, 101] → ok = true → Way S (ms ++ [x]) cb ∧ cb.length < l.length) := by
       intro h1 h2
       obtain ⟨k1, k2⟩ := hbody.1 h2
       refine ⟨way_step (a := ca) (by rw [← HL.out.1]; exact hway.out) ⟨k1, (line_is k1).2 ⟨h1, k2⟩⟩, ?_⟩
       rw [HL.out.1]; simp; omega
      clear hbody hway HL hown hb1 hb2 hb3 g5
      by_cases hw : wordOf ca = [109, 97, 107, 101]
      · have e2 : (ofL (wordOf ca)).toList = [109, 97, 107, 101] := by rw [hw, ByteArray.toList_eq]; rfl
        have e3 : ((ofL (wordOf ca)).toList == [109, 97, 107, 101]) = true := by simpa using e2
        cases ok
        · have HR : Hid (IsPlan S [] false) := FAIL.out (by simp)
          clear FAIL GO hw
          unfold M3.v
          go_wp2_with fail
          go_region
          all_goals go_wp2
          all_goals go_ret2
          all_goals exact ⟨is28_no _ _ _ HR.out, by first | exact hB3.alloc hB3.size _ | exact (hB3.alloc hB3.size _).drew⟩
        · obtain ⟨hw1, hw2⟩ := GO.out hw rfl
          have HW : Hid (Way S (ms ++ [x]) cb) := hw1
          clear FAIL GO hw1 hw
          unfold M3.v
          go_wp2_with (at_builtin; refine wpList_append_own _ rfl _ _ 95 rfl w.heap.size 51 i0 (.agg #[.string ⟨#[]⟩, .string ⟨#[]⟩, .string ⟨#[]⟩]) 3 48 Tryz.underlying95 hi hz0 hz1 hz2 rfl (by decide) _ _ _ rfl ((hown3.alloc _).alloc _) ⟨w3.heap.size + 1, 0, none⟩ 1 1 [_, _, _] rfl rfl (row3g (by simp) _ _ _ _) (by intro u hu; simp at hu; rcases hu with rfl | rfl | rfl <;> rfl) (by unfold maxLen; omega) (by omega) (by simp; omega) ?_; intro v' w4 hown4 hgrow _; have HG : Hid (Below w.heap.size w w4) := ((hB3.alloc hB3.size _).alloc (by simp; omega) _).grown hgrow (by simp; omega) (fun k hk => (hown3.lt k hk).1); clear hgrow)
          go_roundw
          case rel =>
           refine ⟨cb, ms ++ [x], rfl, HW, ?_, HG.out⟩
           rw [mkCells_snoc, List.length_append]
           exact hown4
          case measure => simp only [strOf, ofL_size]; exact hw2
      · have HR : Hid (IsPlan S [] false) := FAIL.out (fun h => hw h.1)
        have e2 : ¬ (ofL (wordOf ca)).toList = [109, 97, 107, 101] := by rw [ByteArray.toList_eq]; simpa [ofL] using hw
        have e3 : ((ofL (wordOf ca)).toList == [109, 97, 107, 101]) = false := by simpa using e2
        clear FAIL GO
        unfold M3.v
        go_wp2_with fail
        go_region
        all_goals go_wp2
        all_goals go_ret2
        all_goals exact ⟨is28_no _ _ _ HR.out, by first | exact hB3.alloc hB3.size _ | exact (hB3.alloc hB3.size _).drew⟩
end Go.Proofs.YtboojefodbjbcaaGreatDoor.G
namespace Go.Proofs.YtboojefodbjbcaaGreatDoor.G
open Go.RowKit
theorem c112 (s : ByteArray) (w : World) (hs : s.size ≤ 1048576) (hv : VarsR w) :
 Calls Tryz.prog 112 #[.string s] w fun e w' => Is28 w s.data.toList e w' ∧ Below w.heap.size w w' := by
 by_cases h : 300 < s.size
 · exact c112_long s w hs h hv
 · have := c112_short s.data.toList w (by simp; omega) hv
   rw [ofL_self] at this
   exact this
end Go.Proofs.YtboojefodbjbcaaGreatDoor.G
namespace Go.Proofs.YtboojefodbjbcaaGreatDoor.G
open Go.RowKit
open T (F2 f2z treeOk Asc FilesAt)
theorem place_free {fs : List F2} {nm : ByteArray} {p : Nat} {f : Bool} (hm : Asc fs) (h : T.Place fs nm p f) : (f = true → ∃ i, i = p ∧ i < fs.length ∧ (fs.getD i f2z).nm = nm) ∧ (f = false → Free fs nm) := by
 constructor
 · intro hf
   exact ⟨p, rfl, (h.here.1 hf).1, (h.here.1 hf).2⟩
 · intro hf j hj e
   rcases Nat.lt_trichotomy j p with h1 | h1 | h1
   · have := h.less j h1
     rw [e, T.lt_irrefl'] at this; cases this
   · subst h1
     have := h.here.2 ⟨hj, e⟩
     rw [hf] at this; cases this
   · have a1 := hm p j h1 hj
     rw [e] at a1
     have a2 := h.more p (Nat.le_refl _) (by omega)
     rw [a1] at a2; cases a2
theorem rzF {w u : World} {v : Value} (hb : Below (w.heap.size + 2) ((w.alloc (.cells #[v] 49)).alloc (.cells #[.string ⟨#[]⟩, .string ⟨#[]⟩] 129)) u) :
 u.cell? ⟨w.heap.size, 0, none⟩ = some v ∧ (u.cell? ⟨w.heap.size + 1, 0, none⟩ = some (.string ⟨#[]⟩) ∧ u.cell? ⟨w.heap.size + 1, 1, none⟩ = some (.string ⟨#[]⟩)) ∧ u.frozen? ⟨w.heap.size + 1, 0, none⟩ = false ∧ u.frozen? ⟨w.heap.size + 1, 1, none⟩ = false := by
 have c : ∀ b j, b < w.heap.size + 2 → u.cell? ⟨b, j, none⟩ = ((w.alloc (.cells #[v] 49)).alloc (.cells #[.string ⟨#[]⟩, .string ⟨#[]⟩] 129)).cell? ⟨b, j, none⟩ := fun b j h => hb.cell (by exact h)
 have f : ∀ b j, b < w.heap.size + 2 → u.frozen? ⟨b, j, none⟩ = ((w.alloc (.cells #[v] 49)).alloc (.cells #[.string ⟨#[]⟩, .string ⟨#[]⟩] 129)).frozen? ⟨b, j, none⟩ := fun b j h => hb.frozen (by exact h)
 rw [c _ _ (by omega), c _ _ (by omega), c _ _ (by omega), f _ _ (by omega), f _ _ (by omega)]
 simp [go_sem]
theorem set2_at' (u : World) (B : Nat) (v0 v1 x0 x1 : Value) (h0 : u.cell? ⟨B, 0, none⟩ = some x0) (h1 : u.cell? ⟨B, 1, none⟩ = some x1) :
 ((u.setCell ⟨B, 0, none⟩ v0).setCell ⟨B, 1, none⟩ v1).cell? ⟨B, 0, none⟩ = some v0 ∧ ((u.setCell ⟨B, 0, none⟩ v0).setCell ⟨B, 1, none⟩ v1).cell? ⟨B, 1, none⟩ = some v1 := by
 have a1 : (u.setCell ⟨B, 0, none⟩ v0).cell? ⟨B, 1, none⟩ = some x1 := by rw [World.cell?_setCell_other _ _ _ _ (adr_ne (by omega))]; exact h1
 refine ⟨?_, World.cell?_setCell_same _ _ _ a1⟩
 rw [World.cell?_setCell_other _ _ _ _ (adr_ne (by omega))]; exact World.cell?_setCell_same _ _ _ h0
def Is33 (fs : List F2) (nm : ByteArray) (e : Ending) : Prop := ∃ (x : F2) (there : Bool), e = .returned (.tuple #[.agg #[.string x.nm, .string x.tx], .bool there]) ∧ ((there = true ∧ ∃ i, i < fs.length ∧ fs.getD i f2z = x ∧ x.nm = nm) ∨ (there = false ∧ Free fs nm))
set_option maxHeartbeats 2000000 in
theorem c97 (a : Option Addr) (cap : Nat) (fs : List F2) (nm : ByteArray) (w : World) (hl : fs.length ≤ 40) (hat : FilesAt w a fs) (hm : Asc fs) :
 Calls Tryz.prog 97 #[.agg #[.slice a fs.length cap], .string nm] w fun e w' => Is33 fs nm e ∧ Below w.heap.size w w' := by
 have hB0 : Below w.heap.size w ((w.alloc (.cells #[.slice a fs.length cap] 49)).alloc (.cells #[.string ⟨#[]⟩, .string ⟨#[]⟩] 129)) := ((Below.refl _ _).alloc (Nat.le_refl _) _).alloc (by simp) _
 have h35 := T.c113 a cap fs nm _ hl (T.files_below hat hB0) hm
 go_enter Tryz.func97, Tryz.ntmps97
 go_wp2_with fail
 refine h35.mono ?_
 rintro e w1 ⟨⟨p, f, rfl, hp⟩, hb1⟩
 obtain ⟨P1, P2⟩ := place_free hm hp
 have hx1 : Below (w.heap.size + 2) ((w.alloc (.cells #[.slice a fs.length cap] 49)).alloc (.cells #[.string ⟨#[]⟩, .string ⟨#[]⟩] 129)) w1 := by have h := hb1; simp at h; exact h
 have hB1 : Below w.heap.size w w1 := hB0.trans (hx1.mono (by omega))
 obtain ⟨t0, ⟨z0, z1⟩, y0, y1⟩ := rzF hx1
 clear hb1 h35
 cases f
 · have HI : Hid (Is33 fs nm (.returned (.tuple #[.agg #[.string ⟨#[]⟩, .string ⟨#[]⟩], .bool false]))) := ⟨⟨⟨#[]⟩, ⟨#[]⟩⟩, false, rfl, .inr ⟨rfl, P2 rfl⟩⟩
   clear P1 P2 hp
   go_wp2
   have F := set2_at' w1 (w.heap.size + 1) (.string ⟨#[]⟩) (.string ⟨#[]⟩) _ _ z0 z1
   refine bodyPost_ret (v := .tuple #[.agg #[.string ⟨#[]⟩, .string ⟨#[]⟩], .bool false]) (by simp [results, Tryz.results97, go_sem, F.1, F.2]) rfl ⟨HI.out, ?_⟩
   exact (hB1.setCell (by simp) _).setCell (by simp) _
 · obtain ⟨i, rfl, hi, hn⟩ := P1 rfl
   obtain ⟨b, off, hc⟩ := T.files_some hat
   rcases hc with hss | ⟨ha, hbw, hcell⟩
   · rw [hss] at hi; exact absurd hi (Nat.not_lt_zero _)
   subst ha
   have g0 := (hB1.cell (p := ⟨b, off + i * 2, none⟩) hbw).trans (hcell i hi).1
   have g1 := (hB1.cell (p := ⟨b, off + i * 2 + 1, none⟩) hbw).trans (hcell i hi).2
   have HI : Hid (Is33 fs nm (.returned (.tuple #[.agg #[.string (fs.getD i f2z).nm, .string (fs.getD i f2z).tx], .bool true]))) := ⟨_, true, rfl, .inl ⟨rfl, i, hi, rfl, hn⟩⟩
   have HX : Hid (∃ x, x = fs.getD i f2z) := ⟨_, rfl⟩
   obtain ⟨x, hx⟩ := HX.out
   rw [← hx] at g0 g1 HI
   clear P1 P2 hp hcell HX hx hn
   go_wp2
   have F := set2_at' w1 (w.heap.size + 1) (.string x.nm) (.string x.tx) _ _ z0 z1
   refine bodyPost_ret (v := .tuple #[.agg #[.string x.nm, .string x.tx], .bool true]) (by simp [results, Tryz.results97, go_sem, F.1, F.2]) rfl ⟨HI.out, ?_⟩
   exact (hB1.setCell (by simp) _).setCell (by simp) _
end Go.Proofs.YtboojefodbjbcaaGreatDoor.G
namespace Go.Proofs.YtboojefodbjbcaaGreatDoor.G
open Go.RowKit
open T (F2 f2z FilesAt Asc files_below)
def FreeM (ms : List M3) (nm : ByteArray) : Prop := ∀ j, j < ms.length → (ms.getD j m3z).nm ≠ nm
def Is44 (fs : List F2) (ms : List M3) (nm : ByteArray) (e : Ending) : Prop := ∃ r, e = .returned (.bool r) ∧ (r = true ↔ ¬ (Free fs nm ∧ FreeM ms nm))
theorem is44_of {fs : List F2} {ms : List M3} {nm : ByteArray} {p : Nat} {f g : Bool} (hm : Asc fs) (h : T.Place fs nm p f) (k : (g = true ∧ ∃ i, i < ms.length ∧ (ms.getD i m3z).nm = nm) ∨ (g = false ∧ FreeM ms nm)) : Is44 fs ms nm (.returned (.bool (f || g))) := by
 obtain ⟨P1, P2⟩ := place_free hm h
 refine ⟨_, rfl, ?_⟩
 cases f
 · rcases k with ⟨rfl, i, hi, hn⟩ | ⟨rfl, hf⟩
   · exact ⟨fun _ c => c.2 i hi hn, fun _ => rfl⟩
   · exact ⟨(fun h => by cases h), fun c => absurd ⟨P2 rfl, hf⟩ c⟩
 · obtain ⟨i, _, hi, hn⟩ := P1 rfl
   exact ⟨fun _ c => c.1 i hi hn, fun _ => rfl⟩
set_option maxHeartbeats 2000000 in
theorem c93 (a pa : Option Addr) (cap pc : Nat) (fs : List F2) (ms : List M3) (nm : ByteArray) (w : World) (hl : fs.length ≤ 40) (hat : FilesAt w a fs) (hm : Asc fs) (hlm : ms.length ≤ 300) (hatm : MksAt w pa ms) (hmm : AscM ms) :
 Calls Tryz.prog 93 #[.agg #[.slice a fs.length cap], .slice pa ms.length pc, .string nm] w fun e w' => Is44 fs ms nm e ∧ Below w.heap.size w w' := by
 have hB0 : Below w.heap.size w (w.alloc (.cells #[.slice a fs.length cap] 49)) := (Below.refl _ _).alloc (Nat.le_refl _) _
 have h1 := T.c113 a cap fs nm _ hl (files_below hat hB0) hm
 go_enter Tryz.func93, Tryz.ntmps93
 go_wp2_with fail
 refine h1.mono ?_
 rintro e w1 ⟨⟨p, f, rfl, hp⟩, hb1⟩
 have hB1 : Below w.heap.size w w1 := hB0.trans (hb1.mono (by simp))
 have h2 := c49 pa pc ms nm w1 hlm (mks_below hatm hB1) hmm
 clear h1 hb1
 go_wp2_with fail
 refine h2.mono ?_
 rintro e w2 ⟨⟨x, g, rfl, hx⟩, hb2⟩
 have hB2 : Below w.heap.size w w2 := hB1.trans (hb2.mono hB1.size)
 have HI : Hid (Is44 fs ms nm (.returned (.bool (f || g)))) := is44_of hm hp (by
  rcases hx with ⟨rfl, i, hi, rfl, hn⟩ | ⟨rfl, hf⟩
  · exact .inl ⟨rfl, i, hi, hn⟩
  · exact .inr ⟨rfl, hf⟩)
 clear h2 hx hp
 cases f
 all_goals go_wp2
 all_goals go_ret
 all_goals exact ⟨HI.out, hB2.alloc hB2.size _⟩
theorem cell_al {w : World} {b : Nat} (h : b < w.heap.size) (j : Nat) (o : Obj) : (w.alloc o).cell? ⟨b, j, none⟩ = w.cell? ⟨b, j, none⟩ := ((Below.refl _ w).alloc (Nat.le_refl _) o).cell (by exact h)
theorem rzU {w u : World} {v : Value} (hb : Below (w.heap.size + 2) ((w.alloc (.cells #[v] 49)).alloc (.cells #[.int .i64 0, .string ⟨#[]⟩] 37)) u) :
 u.cell? ⟨w.heap.size, 0, none⟩ = some v ∧ (u.cell? ⟨w.heap.size + 1, 0, none⟩ = some (.int .i64 0) ∧ u.cell? ⟨w.heap.size + 1, 1, none⟩ = some (.string ⟨#[]⟩)) ∧ u.frozen? ⟨w.heap.size + 1, 0, none⟩ = false ∧ u.frozen? ⟨w.heap.size + 1, 1, none⟩ = false := by
 have c : ∀ b j, b < w.heap.size + 2 → u.cell? ⟨b, j, none⟩ = ((w.alloc (.cells #[v] 49)).alloc (.cells #[.int .i64 0, .string ⟨#[]⟩] 37)).cell? ⟨b, j, none⟩ := fun b j h => hb.cell (by exact h)
 have f : ∀ b j, b < w.heap.size + 2 → u.frozen? ⟨b, j, none⟩ = ((w.alloc (.cells #[v] 49)).alloc (.cells #[.int .i64 0, .string ⟨#[]⟩] 37)).frozen? ⟨b, j, none⟩ := fun b j h => hb.frozen (by exact h)
 rw [c _ _ (by omega), c _ _ (by omega), c _ _ (by omega), f _ _ (by omega), f _ _ (by omega)]
 simp [go_sem]
def Is43 (fs : List F2) (nm : ByteArray) (e : Ending) : Prop := ∃ (c : Int) (t : ByteArray), e = .returned (.agg #[.int .i64 c, .string t]) ∧ ((c = 0 ∧ ∃ i, i < fs.length ∧ (fs.getD i f2z).nm = nm ∧ t = (fs.getD i f2z).tx) ∨ (c = 4 ∧ t = nm ∧ Free fs nm))
set_option maxHeartbeats 2000000 in
theorem c50 (a : Option Addr) (cap : Nat) (fs : List F2) (nm : ByteArray) (w : World) (hl : fs.length ≤ 40) (hat : FilesAt w a fs) (hm : Asc fs) :
 Calls Tryz.prog 50 #[.agg #[.slice a fs.length cap], .string nm] w fun e w' => Is43 fs nm e ∧ Below w.heap.size w w' := by
 have h52 := fun u (hb : Below w.heap.size w u) => c97 a cap fs nm u hl (files_below hat hb) hm
 have hB0 : ∀ o1 o2, Below w.heap.size w ((w.alloc o1).alloc o2) := fun o1 o2 => ((Below.refl _ _).alloc (Nat.le_refl _) _).alloc (by simp) _
 go_enter Tryz.func50, Tryz.ntmps50
 go_wp2_with fail
 refine (h52 _ (hB0 _ _)).mono ?_
 rintro e w1 ⟨⟨x, g, rfl, hx⟩, hb1⟩
 have hB1 : Below w.heap.size w w1 := (hB0 _ _).trans (hb1.mono (by simp; omega))
 have hx1 : Below (w.heap.size + 2) ((w.alloc (.cells #[.slice a fs.length cap] 49)).alloc (.cells #[.int .i64 0, .string ⟨#[]⟩] 37)) w1 := by have h := hb1; simp at h; exact h
 obtain ⟨t0, ⟨z0, z1⟩, y0, y1⟩ := rzU hx1
 have hsz : w.heap.size + 1 < w1.heap.size := by have := hx1.size; simp at this; omega
 clear h52 hb1 hB0
 cases g
 · have HI : Hid (Is43 fs nm (.returned (.agg #[.int .i64 4, .string nm]))) := ⟨4, nm, rfl, .inr ⟨rfl, rfl, by
    rcases hx with ⟨h, _⟩ | ⟨_, h⟩
    · cases h
    · exact h⟩⟩
   clear hx
   go_wp2
   have F := set2_at' w1 (w.heap.size + 1) (.int .i64 4) (.string nm) _ _ z0 z1
   have hBU : Below w.heap.size w ((w1.setCell ⟨w.heap.size + 1, 0, none⟩ (.int .i64 4)).setCell ⟨w.heap.size + 1, 1, none⟩ (.string nm)) := (hB1.setCell (by simp) _).setCell (by simp) _
   have hszU : w.heap.size + 1 < ((w1.setCell ⟨w.heap.size + 1, 0, none⟩ (.int .i64 4)).setCell ⟨w.heap.size + 1, 1, none⟩ (.string nm)).heap.size := by simpa using hsz
   generalize ((w1.setCell ⟨w.heap.size + 1, 0, none⟩ (.int .i64 4)).setCell ⟨w.heap.size + 1, 1, none⟩ (.string nm)) = U at *
   have F1 := fun o => (cell_al hszU 0 o).trans F.1
   have F2 := fun o => (cell_al hszU 1 o).trans F.2
   refine bodyPost_ret (v := .agg #[.int .i64 4, .string nm]) (by simp [results, Tryz.results50, go_sem, F1, F2]) rfl ⟨HI.out, ?_⟩
   exact hBU.alloc hBU.size _
 · have HI : Hid (Is43 fs nm (.returned (.agg #[.int .i64 0, .string x.tx]))) := ⟨0, x.tx, rfl, .inl ⟨rfl, by
    rcases hx with ⟨_, i, hi, rfl, hn⟩ | ⟨h, _⟩
    · exact ⟨i, hi, hn, rfl⟩
    · cases h⟩⟩
   clear hx
   go_wp2
   have F := set2_at' w1 (w.heap.size + 1) (.int .i64 0) (.string x.tx) _ _ z0 z1
   have hBU : Below w.heap.size w ((w1.setCell ⟨w.heap.size + 1, 0, none⟩ (.int .i64 0)).setCell ⟨w.heap.size + 1, 1, none⟩ (.string x.tx)) := (hB1.setCell (by simp) _).setCell (by simp) _
   have hszU : w.heap.size + 1 < ((w1.setCell ⟨w.heap.size + 1, 0, none⟩ (.int .i64 0)).setCell ⟨w.heap.size + 1, 1, none⟩ (.string x.tx)).heap.size := by simpa using hsz
   generalize ((w1.setCell ⟨w.heap.size + 1, 0, none⟩ (.int .i64 0)).setCell ⟨w.heap.size + 1, 1, none⟩ (.string x.tx)) = U at *
   have F1 := fun o => (cell_al hszU 0 o).trans F.1
   have F2 := fun o => (cell_al hszU 1 o).trans F.2
   refine bodyPost_ret (v := .agg #[.int .i64 0, .string x.tx]) (by simp [results, Tryz.results50, go_sem, F1, F2]) rfl ⟨HI.out, ?_⟩
   exact hBU.alloc hBU.size _
end Go.Proofs.YtboojefodbjbcaaGreatDoor.G
