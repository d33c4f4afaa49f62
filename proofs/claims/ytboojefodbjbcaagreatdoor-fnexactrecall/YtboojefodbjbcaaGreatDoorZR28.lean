import Derived.Test.YtboojefodbjbcaaGreatDoorZR23
import Derived.Deep.RegionHeld3
import Derived.Test.YtboojefodbjbcaaGreatDoorZR24
import Derived.Test.YtboojefodbjbcaaGreatDoorZR25
import Derived.Test.YtboojefodbjbcaaGreatDoorZR00
import Derived.Test.YtboojefodbjbcaaGreatDoorM3
namespace Go.Proofs.YtboojefodbjbcaaGreatDoor
open Go.RowKit
set_option maxRecDepth 100000
end Go.Proofs.YtboojefodbjbcaaGreatDoor
namespace Go.Proofs.YtboojefodbjbcaaGreatDoor
open Go.RowKit
set_option maxRecDepth 100000
end Go.Proofs.YtboojefodbjbcaaGreatDoor
namespace Go.Proofs.YtboojefodbjbcaaGreatDoor
open Go.RowKit
set_option maxRecDepth 100000
end Go.Proofs.YtboojefodbjbcaaGreatDoor
namespace Go.Proofs.YtboojefodbjbcaaGreatDoor
open Go.RowKit
set_option maxRecDepth 100000
set_option linter.unusedVariables false
def IsT (P : Prop) (l : List UInt8) (e : Ending) : Prop := ∃ s, e = .returned (.string s) ∧ ((P ∧ s = ofL l) ∨ (¬ P ∧ s = ⟨#[]⟩))
end Go.Proofs.YtboojefodbjbcaaGreatDoor
namespace Go.Proofs.YtboojefodbjbcaaGreatDoor
open Go.RowKit Go.Maps
set_option maxRecDepth 100000
set_option linter.unusedVariables false
def hC (t : ByteArray) : Int := ((t.data.toList.headD 0).toNat : Int) - 48
def hT (t : ByteArray) : ByteArray := ofL (t.data.toList.drop 2)
def hV (t : ByteArray) : Value := .agg #[.string t, .int .i64 (hC t), .string (hT t)]
def gT (W : Int) (t : ByteArray) : ByteArray × Value := (sumS t W, hV t)
theorem ofL_list (l : List UInt8) : (ofL l).data.toList = l := by simp [ofL]
theorem hV_read {l : List UInt8} {c : Int} {u : List UInt8} (h : IsR l c u true) : hC (ofL l) = c ∧ hT (ofL l) = ofL u := by
 obtain ⟨hv, rfl⟩ := h.1 rfl
 have := vr_code hv
 unfold hC hT
 rw [ofL_list]
 refine ⟨?_, rfl⟩
 simp only [List.headD_cons, UInt8.toNat_ofNat']
 omega
def insT (W : Int) (t : ByteArray) : List ByteArray → List ByteArray
 | [] => [t]
 | y :: r => if bef (sumS t W) (sumS y W) then t :: y :: r else y :: insT W t r
def putT (W : Int) (t : ByteArray) (ts : List ByteArray) : List ByteArray × Bool :=
 match ts.find? (fun y => decide (sumS y W = sumS t W)) with
 | some y => (ts, decide (y = t))
 | none => (insT W t ts, true)
def AscT (W : Int) (ts : List ByteArray) : Prop := Asc (ts.map (gT W))
structure Fr (W : Int) (l f : List (ByteArray × Value)) (ts : List ByteArray) : Prop where
 asc : AscT W ts
 perm : (ts.map (gT W)).Perm (f ++ l)
 la : Asc l
 fa : Asc f
 dis : ∀ p ∈ f, getK l p.1 = none
open Classical in
open Classical in
theorem bl_eq : ∀ (a b : List UInt8), Op.bytesLess a b = bytesBefore a b
 | [], [] => by simp [Op.bytesLess, bytesBefore]
 | [], _ :: _ => by simp [Op.bytesLess, bytesBefore]
 | _ :: _, [] => by simp [Op.bytesLess, bytesBefore]
 | x :: r, y :: s => by
  have := bl_eq r s
  simp only [Op.bytesLess, bytesBefore]
  rw [this]
theorem asc_of_ok {s : St} (h : StOk s) : AscT s.wd s.ts := by
 obtain ⟨_, ⟨_, h2⟩, _⟩ := h
 have key : ∀ (ts : List ByteArray), (∀ k, k < ts.length → k = 0 ∨ bef (sumS (ts.getD (k - 1) ByteArray.empty) s.wd) (sumS (ts.getD k ByteArray.empty) s.wd) = true) → AscT s.wd ts := by
  intro ts
  induction ts with
  | nil => intro _; exact List.Pairwise.nil
  | cons y r ih =>
   intro h
   have hr : AscT s.wd r := ih (fun k hk => by
    by_cases h0 : k = 0
    · exact .inl h0
    · refine .inr ?_
      have := (h (k + 1) (by simp; omega)).resolve_left (by omega)
      simp only [Nat.add_sub_cancel] at this
      have e1 : (y :: r).getD (k + 1) ByteArray.empty = r.getD k ByteArray.empty := rfl
      have e2 : (y :: r).getD k ByteArray.empty = r.getD (k - 1) ByteArray.empty := by
       obtain ⟨j, rfl⟩ : ∃ j, k = j + 1 := ⟨k - 1, by omega⟩
       rfl
      rw [e1, e2] at this
      exact this)
   refine List.pairwise_cons.2 ⟨fun p hp => ?_, hr⟩
   cases r with
   | nil => cases hp
   | cons z q =>
    have h1 := (h 1 (by simp)).resolve_left (by omega)
    have h1' : bef (sumS y s.wd) (sumS z s.wd) = true := h1
    rcases List.mem_cons.1 hp with rfl | hp
    · exact h1'
    · exact bef_tr h1' ((List.pairwise_cons.1 hr).1 p hp)
 refine key s.ts (fun k hk => ?_)
 rcases (h2 k hk).2 with h0 | h0
 · exact .inl h0
 · refine .inr ?_
   rw [bl_eq] at h0
   unfold bef
   rw [← ByteArray.toList_eq, ← ByteArray.toList_eq]
   exact h0
end Go.Proofs.YtboojefodbjbcaaGreatDoor
namespace Go.Proofs.YtboojefodbjbcaaGreatDoor
open Go.RowKit Go.Maps
set_option maxRecDepth 100000
set_option linter.unusedVariables false
theorem c88k {x : ByteArray} {c : Int} {u : List UInt8} (w : World) (hs : x.size ≤ 1048700) (hm : MaxAt w) (h : IsR x.data.toList c u true) :
 Calls Tryz.prog 88 #[.string x] w fun e w' => e = .returned (.tuple #[.agg #[.int .i64 (hC x), .string (hT x)], .bool true]) ∧ Below w.heap.size w w' := by
 have h6 := c88 x.data.toList w (by simpa using hs) hm
 rw [ofL_self] at h6
 refine h6.mono ?_
 rintro e w' ⟨⟨c', t', ok, rfl, hr, _⟩, hb⟩
 obtain ⟨rfl, rfl, rfl⟩ := isR_one hr h
 obtain ⟨e1, e2⟩ := hV_read h
 rw [ofL_self] at e1 e2
 exact ⟨by rw [e1, e2], hb⟩
theorem insK_last {x : ByteArray × Value} {l : List (ByteArray × Value)} (h : ∀ p ∈ l, bef p.1 x.1 = true) : insK x l = l ++ [x] := by
 induction l with
 | nil => rfl
 | cons y r ih =>
  unfold insK
  have hy := h y (List.mem_cons_self ..)
  have : bef x.1 y.1 = false := by
   cases hq : bef x.1 y.1 with
   | false => rfl
   | true => have := bef_tr hy hq; rw [bef_irr] at this; cases this
  rw [this, ih (fun p hp => h p (List.mem_cons_of_mem _ hp))]
  simp
theorem take_text {ts : List ByteArray} {k : Nat} (h : k < ts.length) : ts.take (k + 1) = ts.take k ++ [ts.getD k ByteArray.empty] := by
 rw [List.take_add_one, List.getElem?_eq_getElem h]
 simp [List.getD, List.getElem?_eq_getElem h]
theorem ascT_take {W : Int} {ts : List ByteArray} (h : AscT W ts) (k : Nat) : AscT W (ts.take k) := by
 unfold AscT Asc at h ⊢
 rw [List.map_take]
 exact h.sublist (List.take_sublist _ _)
theorem put_next {W : Int} {ts : List ByteArray} (h : AscT W ts) {k : Nat} (hk : k < ts.length) : (mapD ((ts.take k).map (gT W))).put (kS (sumS (ts.getD k ByteArray.empty) W)) (.held (hV (ts.getD k ByteArray.empty))) = mapD ((ts.take (k + 1)).map (gT W)) := by
 have hA := ascT_take h (k + 1)
 rw [take_text hk] at hA ⊢
 unfold AscT Asc at hA
 rw [List.map_append, List.pairwise_append] at hA
 have hb : ∀ p ∈ (ts.take k).map (gT W), bef p.1 (sumS (ts.getD k ByteArray.empty) W) = true := fun p hp => hA.2.2 p hp (gT W (ts.getD k ByteArray.empty)) (by simp)
 rw [mapD_put _ (getK_none.2 (fun p hp e => by have := hb p hp; rw [e, bef_irr] at this; cases this))]
 rw [insK_last (x := (sumS (ts.getD k ByteArray.empty) W, hV (ts.getD k ByteArray.empty))) hb, List.map_append]
 rfl
theorem ShR.mapT {B H bT bR bP : Nat} {W : Int} {l pl : List (ByteArray × Value)} {rs : List R3} {rv : List Value} {w w' : World} (h : ShR B rs rv pl w) (hg : w.grownBy w' (some bT)) (hC : ShC B H bT bR bP W l rv pl w) : ShR B rs rv pl w' := by
 obtain ⟨es, ck, hh⟩ := mp_isMap hC.tx
 exact h.map hg hC.hT hh
theorem max_gb {w w' : World} {N : Nat} (h : MaxAt w) (hb : Below N w w') (hN : 5 < N) : MaxAt w' := by
 obtain ⟨h0, m, hm⟩ := h
 exact ⟨Nat.lt_of_lt_of_le h0 hb.size, m, (hb.cell (p := ⟨5, 0, none⟩) hN).trans hm⟩
theorem rec_at {w w' : World} {b o : Nat} {x : R3} (h : RecAt w b o x) (hb : Below w.heap.size w w') (hlt : b < w.heap.size) : ∃ ai ci, w'.cell? ⟨b, o, none⟩ = some (.string x.key) ∧ w'.cell? ⟨b, o + 1, none⟩ = some (.slice ai x.gs.length ci) ∧ w'.cell? ⟨b, o + 2, none⟩ = some (.string x.out) ∧ RecV w.heap.size w' (.agg #[.string x.key, .slice ai x.gs.length ci, .string x.out]) x := by
 obtain ⟨ai, ci, h0, h1, h2, hG⟩ := h
 refine ⟨ai, ci, (hb.cell (p := ⟨b, o, none⟩) hlt).trans h0, (hb.cell (p := ⟨b, o + 1, none⟩) hlt).trans h1, (hb.cell (p := ⟨b, o + 2, none⟩) hlt).trans h2, ai, ci, rfl, gls_below hG hb, ?_⟩
 rcases hG with h | ⟨b', off, ha, hl, _⟩
 · exact .inl h
 · exact .inr ⟨b', off, ha, .inl hl⟩
theorem take_rec {rs : List R3} {k : Nat} (h : k < rs.length) : rs.take (k + 1) = rs.take k ++ [rs.getD k r3z] := by
 rw [List.take_add_one, List.getElem?_eq_getElem h]
 simp [List.getD, List.getElem?_eq_getElem h]
theorem Sh.below {B H bT bR bP : Nat} {W : Int} {l : List (ByteArray × Value)} {rs : List R3} {rv : List Value} {w w' : World} (h : Sh B H bT bR bP W l rs rv w) (hb : Below w.heap.size w w') : Sh B H bT bR bP W l rs rv w' := by
 obtain ⟨pl, h1, h2⟩ := h
 exact ⟨pl, h1.below hb, h2.below hb⟩
def IsSh (s : St) (w w' : World) (e : Ending) : Prop := ∃ H bT bR bP rv, e = .returned (.pointer (some ⟨H, 0, none⟩)) ∧ Sh w.heap.size H bT bR bP s.wd (s.ts.map (gT s.wd)) s.rs rv w'
set_option maxHeartbeats 4000000 in
theorem c45 (s : St) (ta ra : Option Addr) (tc rc : Nat) (w : World) (hok : StOk s) (hs : s.le 1048576) (hat : StAt w ta ra s) (hm : MaxAt w) :
 Calls Tryz.prog 45 #[.agg #[.int .i64 s.wd, .slice ta s.ts.length tc, .slice ra s.rs.length rc]] w fun e w' => IsSh s w w' e ∧ Below w.heap.size w w' := by
 have hm0 := hm.1
 have HA := hidI (asc_of_ok hok)
 have HT := hidI hok.2.1.2
 have htl := hok.2.1.1
 have HWD := hidI hok.1
 have hrl := hok.2.2.1
 have HRO := hidI hok.2.2.2
 have HSZ := hidI hs.1.2
 have HM := hidI hm
 obtain ⟨b, off, hc⟩ := strs_some hat.1
 have HC := hidI hc
 have HR := hidI hat.2
 have hmm := @run_makeMap Tryz.prog
 have sz4 : (((((w.alloc (.cells #[.int .i64 s.wd, .slice ta s.ts.length tc, .slice ra s.rs.length rc] 45)).alloc (.map #[] 0)).alloc (.map #[] 0)).alloc (.map #[] 0)).alloc (.cells #[.int .i64 s.wd, .map (some (w.heap.size + 1)), .map (some (w.heap.size + 2)), .map (some (w.heap.size + 3))] 155)).heap.size = w.heap.size + 5 := by simp
 have B0 : Below w.heap.size w (((((w.alloc (.cells #[.int .i64 s.wd, .slice ta s.ts.length tc, .slice ra s.rs.length rc] 45)).alloc (.map #[] 0)).alloc (.map #[] 0)).alloc (.map #[] 0)).alloc (.cells #[.int .i64 s.wd, .map (some (w.heap.size + 1)), .map (some (w.heap.size + 2)), .map (some (w.heap.size + 3))] 155)) := (((((Below.refl _ _).alloc (Nat.le_refl _) _).alloc (by simp) _).alloc (by simp; omega) _).alloc (by simp; omega) _).alloc (by simp; omega) _
 have s0 : (w.alloc (.cells #[.int .i64 s.wd, .slice ta s.ts.length tc, .slice ra s.rs.length rc] 45)).heap.size = w.heap.size + 1 := by simp
 have s1 : ((w.alloc (.cells #[.int .i64 s.wd, .slice ta s.ts.length tc, .slice ra s.rs.length rc] 45)).alloc (.map #[] 0)).heap.size = w.heap.size + 2 := by simp
 have s2 : (((w.alloc (.cells #[.int .i64 s.wd, .slice ta s.ts.length tc, .slice ra s.rs.length rc] 45)).alloc (.map #[] 0)).alloc (.map #[] 0)).heap.size = w.heap.size + 3 := by simp
 have s3 : ((((w.alloc (.cells #[.int .i64 s.wd, .slice ta s.ts.length tc, .slice ra s.rs.length rc] 45)).alloc (.map #[] 0)).alloc (.map #[] 0)).alloc (.map #[] 0)).heap.size = w.heap.size + 4 := by simp
 have m1 := World.ownsMap_made (w.alloc (.cells #[.int .i64 s.wd, .slice ta s.ts.length tc, .slice ra s.rs.length rc] 45)) Tryz.prog 9 tokR
 have m2 := World.ownsMap_made ((w.alloc (.cells #[.int .i64 s.wd, .slice ta s.ts.length tc, .slice ra s.rs.length rc] 45)).alloc (.map #[] 0)) Tryz.prog 3 tokR
 have m3 := World.ownsMap_made (((w.alloc (.cells #[.int .i64 s.wd, .slice ta s.ts.length tc, .slice ra s.rs.length rc] 45)).alloc (.map #[] 0)).alloc (.map #[] 0)) Tryz.prog 9 tokR
 have bH := blk_new ((((w.alloc (.cells #[.int .i64 s.wd, .slice ta s.ts.length tc, .slice ra s.rs.length rc] 45)).alloc (.map #[] 0)).alloc (.map #[] 0)).alloc (.map #[] 0)) [.int .i64 s.wd, .map (some (w.heap.size + 1)), .map (some (w.heap.size + 2)), .map (some (w.heap.size + 3))] 155
 have tH := ofT_new ((((w.alloc (.cells #[.int .i64 s.wd, .slice ta s.ts.length tc, .slice ra s.rs.length rc] 45)).alloc (.map #[] 0)).alloc (.map #[] 0)).alloc (.map #[] 0)) #[.int .i64 s.wd, .map (some (w.heap.size + 1)), .map (some (w.heap.size + 2)), .map (some (w.heap.size + 3))] 155
 rw [s0] at m1
 rw [s1] at m2
 rw [s2] at m3
 rw [s3] at bH tH
 have C0 : Hid (ShC w.heap.size (w.heap.size + 4) (w.heap.size + 1) (w.heap.size + 2) (w.heap.size + 3) s.wd ((s.ts.take 0).map (gT s.wd)) [] [] (((((w.alloc (.cells #[.int .i64 s.wd, .slice ta s.ts.length tc, .slice ra s.rs.length rc] 45)).alloc (.map #[] 0)).alloc (.map #[] 0)).alloc (.map #[] 0)).alloc (.cells #[.int .i64 s.wd, .map (some (w.heap.size + 1)), .map (some (w.heap.size + 2)), .map (some (w.heap.size + 3))] 155))) := hidI ⟨by omega, by omega, by omega, by omega, by omega, by omega, by omega, by omega, bH, (m1.alloc _).alloc _ |>.alloc _, List.Pairwise.nil, (m2.alloc _).alloc _, m3.alloc _, List.Pairwise.nil, tH⟩
 have R0 : Hid (ShR w.heap.size [] [] [] (((((w.alloc (.cells #[.int .i64 s.wd, .slice ta s.ts.length tc, .slice ra s.rs.length rc] 45)).alloc (.map #[] 0)).alloc (.map #[] 0)).alloc (.map #[] 0)).alloc (.cells #[.int .i64 s.wd, .map (some (w.heap.size + 1)), .map (some (w.heap.size + 2)), .map (some (w.heap.size + 3))] 155))) := hidI ⟨rfl, fun i h => absurd h (Nat.not_lt_zero _), fun k v e => by simp [getK] at e, fun k _ => rfl, fun k k' v v' _ e => by simp [getK] at e, Nat.le_refl _⟩
 have Y0 : Hid (BlkAt (((((w.alloc (.cells #[.int .i64 s.wd, .slice ta s.ts.length tc, .slice ra s.rs.length rc] 45)).alloc (.map #[] 0)).alloc (.map #[] 0)).alloc (.map #[] 0)).alloc (.cells #[.int .i64 s.wd, .map (some (w.heap.size + 1)), .map (some (w.heap.size + 2)), .map (some (w.heap.size + 3))] 155)) w.heap.size [.int .i64 s.wd, .slice ta s.ts.length tc, .slice ra s.rs.length rc]) := hidI ((blk_new w [.int .i64 s.wd, .slice ta s.ts.length tc, .slice ra s.rs.length rc] 45).below (N := w.heap.size + 1) (((((Below.refl _ _).alloc (by simp) _).alloc (by simp) _).alloc (by simp) _).alloc (by simp) _) (by omega))
 have y0 := Y0.out 0 _ rfl
 have y1 := Y0.out 1 _ rfl
 clear hok hs hat hm hc m1 m2 m3 bH tH
 go_enter Tryz.func45, Tryz.ntmps45
 go_wp2_with fail
 generalize (((((w.alloc (.cells #[.int .i64 s.wd, .slice ta s.ts.length tc, .slice ra s.rs.length rc] 45)).alloc (.map #[] 0)).alloc (.map #[] 0)).alloc (.map #[] 0)).alloc (.cells #[.int .i64 s.wd, .map (some (w.heap.size + 1)), .map (some (w.heap.size + 2)), .map (some (w.heap.size + 3))] 155)) = U4 at *
 go_loopw [20] (fun i wr => ∃ (k : Nat), k ≤ s.ts.length ∧ i = .int .i64 k ∧ Hid (ShC w.heap.size (w.heap.size + 4) (w.heap.size + 1) (w.heap.size + 2) (w.heap.size + 3) s.wd ((s.ts.take k).map (gT s.wd)) [] [] wr) ∧ Hid (ShR w.heap.size [] [] [] wr) ∧ Hid (BlkAt wr w.heap.size [.int .i64 s.wd, .slice ta s.ts.length tc, .slice ra s.rs.length rc]) ∧ Below w.heap.size w wr ∧ w.heap.size + 5 ≤ wr.heap.size) (fun i _ => s.ts.length - (Go.RowKit.intOf i).toNat)
 case atStart => exact ⟨0, Nat.zero_le _, rfl, C0, R0, Y0, B0, by omega⟩
 case round =>
  obtain ⟨k, hk, rfl, C1, R1, Y1, B1, szr⟩ := hrel
  by_cases hlt : k < s.ts.length
  · rcases HC.out with hss | ⟨ha, hbw, hcell⟩
    · rw [hss] at hlt; exact absurd hlt (Nat.not_lt_zero _)
    subst ha
    have g0 := (B1.cell (p := ⟨b, off + k, none⟩) hbw).trans (hcell k hlt)
    obtain ⟨cc, tt, hI⟩ := (HT.out k hlt).1
    have hxs := HSZ.out k
    have HPUT := hidI (put_next HA.out hlt)
    have HASC := hidI (ascT_take HA.out (k + 1))
    have HNL : Hid (((s.ts.take k).map (gT s.wd)).length < maxLen) := by show _ < _; simp; unfold maxLen; omega
    have HKM : Hid ((sumS (s.ts.getD k ByteArray.empty) s.wd).size ≤ maxLen) := by show _ ≤ _; have := sumS_size (s := s.ts.getD k ByteArray.empty) HWD.out; have := HWD.out; unfold maxLen; omega
    generalize hx : s.ts.getD k ByteArray.empty = x at *
    clear hx hcell
    have hx7 : x.size ≤ 1048700 := by omega
    have h57 := c88k wr hx7 (max_gb HM.out B1 (by have := HM.out.1; omega)) hI
    clear hI
    go_wp2_with fail
    refine h57.mono ?_
    rintro e u1 ⟨rfl, hb1⟩
    clear h57
    have su1 := hb1.size
    have BA : Below w.heap.size w (u1.alloc (.cells #[.int .i64 (hC x), .string (hT x)] 37)) := (B1.trans (hb1.mono (by omega))).alloc (by omega) _
    have bA : Below wr.heap.size wr (u1.alloc (.cells #[.int .i64 (hC x), .string (hT x)] 37)) := hb1.alloc su1 _
    have CA := hidI (C1.out.below bA)
    have RA := hidI (R1.out.below bA)
    have yx := hidI (Y1.out.below bA (by omega))
    have tA := hidI (blk_new u1 [.int .i64 (hC x), .string (hT x)] 37)
    have szA : (u1.alloc (.cells #[.int .i64 (hC x), .string (hT x)] 37)).heap.size = u1.heap.size + 1 := by simp
    have hD : u1.heap.size < (u1.alloc (.cells #[.int .i64 (hC x), .string (hT x)] 37)).heap.size := by omega
    clear C1 R1 Y1 hb1
    go_wp2_with fail
    generalize (u1.alloc (.cells #[.int .i64 (hC x), .string (hT x)] 37)) = uA at *
    have f0 := CA.out.blk 0 _ rfl
    have f1 := CA.out.blk 1 _ rfl
    have d0 := tA.out 0 _ rfl
    have d1 := tA.out 1 _ rfl
    refine wp_region_held_drew (S := (fun u => u.cell? ⟨w.heap.size + 4, 0, none⟩ = some (.int .i64 s.wd) ∧ u.cell? ⟨w.heap.size + 4, 1, none⟩ = some (.map (some (w.heap.size + 1))) ∧ u.cell? ⟨u1.heap.size, 0, none⟩ = some (.int .i64 (hC x)) ∧ u.cell? ⟨u1.heap.size, 1, none⟩ = some (.string (hT x)))) (by kernel_rfl) ?_ (fun hHeld => ?_)
    · exact ⟨f0, f1, d0, d1⟩
    refine tk (i := 0) (oi := ⟨some 29, .move (.tmp 3), 97, _, _, none⟩) (v := ?_) rfl (by kernel_rfl) rfl ?e hHeld ?_
    case e => intro wq hSw; (try dsimp only at hSw); go_simp; try with_reducible rfl
    try simp only [qq]
    refine tk (i := 1) (oi := ⟨some 30, .nilCheck (.tmp 29), 0, _, _, none⟩) (v := ?_) rfl (by kernel_rfl) rfl ?e hHeld ?_
    case e => intro wq hSw; (try dsimp only at hSw); go_simp; try with_reducible rfl
    try simp only [qq]
    refine tk (i := 2) (oi := ⟨some 31, .fieldAddr 155 (.tmp 30) 1, 0, _, _, none⟩) (v := ?_) rfl (by kernel_rfl) rfl ?e hHeld ?_
    case e => intro wq hSw; (try dsimp only at hSw); go_simp; try with_reducible rfl
    try simp only [qq]
    refine tk (i := 3) (oi := ⟨some 32, .load 151 (.tmp 31), 151, _, _, none⟩) (v := ?_) rfl (by kernel_rfl) rfl ?e hHeld ?_
    case e => intro wq hSw; (try dsimp only at hSw); go_simp; try with_reducible rfl
    try simp only [qq]
    refine tk (i := 4) (oi := ⟨some 33, .move (.tmp 5), 9, _, _, none⟩) (v := ?_) rfl (by kernel_rfl) rfl ?e hHeld ?_
    case e => intro wq hSw; (try dsimp only at hSw); go_simp; try with_reducible rfl
    try simp only [qq]
    refine tk (i := 5) (oi := ⟨some 34, .move (.tmp 3), 97, _, _, none⟩) (v := ?_) rfl (by kernel_rfl) rfl ?e hHeld ?_
    case e => intro wq hSw; (try dsimp only at hSw); go_simp; try with_reducible rfl
    try simp only [qq]
    refine tk (i := 6) (oi := ⟨some 35, .nilCheck (.tmp 34), 0, _, _, none⟩) (v := ?_) rfl (by kernel_rfl) rfl ?e hHeld ?_
    case e => intro wq hSw; (try dsimp only at hSw); go_simp; try with_reducible rfl
    try simp only [qq]
    refine tk (i := 7) (oi := ⟨some 36, .fieldAddr 155 (.tmp 35) 0, 0, _, _, none⟩) (v := ?_) rfl (by kernel_rfl) rfl ?e hHeld ?_
    case e => intro wq hSw; (try dsimp only at hSw); go_simp; try with_reducible rfl
    try simp only [qq]
    refine tk (i := 8) (oi := ⟨some 37, .load 3 (.tmp 36), 3, _, _, none⟩) (v := ?_) rfl (by kernel_rfl) rfl ?e hHeld ?_
    case e => intro wq hSw; (try dsimp only at hSw); go_simp; try with_reducible rfl
    try simp only [qq]
    refine tk (i := 10) (oi := ⟨some 39, .move (.tmp 5), 9, _, _, none⟩) (v := ?_) rfl (by kernel_rfl) rfl ?e hHeld ?_
    case e => intro wq hSw; (try dsimp only at hSw); go_simp; try with_reducible rfl
    try simp only [qq]
    refine tk (i := 11) (oi := ⟨some 40, .load 37 (.tmp 6), 37, _, _, none⟩) (v := ?_) rfl (by kernel_rfl) rfl ?e hHeld ?_
    case e => intro wq hSw; (try dsimp only at hSw); go_simp; try with_reducible rfl
    try simp only [qq]
    refine tk (i := 12) (oi := ⟨some 41, .build 157 #[(0, .tmp 39), (1, .tmp 40)], 157, _, _, none⟩) (v := ?_) rfl (by kernel_rfl) rfl ?e hHeld ?_
    case e => intro wq hSw; (try dsimp only at hSw); go_simp; try with_reducible rfl
    try simp only [qq]
    refine rd (i := 9) (o := ⟨some 38, .call ⟨.value (.func 89), #[.tmp 33, .tmp 37], #[9, 3]⟩, 9, _, _, none⟩) rfl (by kernel_rfl) (fun K hK => ?_)
    go_simp
    refine (c89 x s.wd _ hx7).mono ?_
    rintro e v1 ⟨rfl, hbv⟩
    go_wp2_with fail
    have hbv' : Below uA.heap.size uA v1 := ((Below.refl _ _).drew).trans hbv
    have sv1 := hbv'.size
    have CV := hidI (CA.out.below hbv')
    have RV := hidI (RA.out.below hbv')
    have BV := BA.trans (hbv'.mono (by omega))
    have h0 := CV.out.blk 0 _ rfl
    have h1 := CV.out.blk 1 _ rfl
    have w0 := (hbv'.cell (p := ⟨u1.heap.size, 0, none⟩) (show u1.heap.size < uA.heap.size by omega)).trans d0
    have w1 := (hbv'.cell (p := ⟨u1.heap.size, 1, none⟩) (show u1.heap.size < uA.heap.size by omega)).trans d1
    have yb := hidI (yx.out.below hbv' (by omega))
    have tD := hidI (tA.out.below hbv' (by omega))
    clear hHeld hbv
    refine hK.out _ _ ⟨h0, h1, w0, w1⟩ (fun hHeld => ?_)
    clear hK K
    try simp only [qq]
    refine rd (i := 13) (o := ⟨none, .mapUpdate 151 (.tmp 32) (.tmp 38) (.tmp 41), 0, _, _, none⟩) rfl (by kernel_rfl) (fun K hK => ?_)
    refine step_upS (l := (s.ts.take k).map (gT s.wd)) (k := sumS x s.wd) (vv := hV x) rfl 151 (.tmp 32) (.tmp 38) (.tmp 41) rfl rfl rfl rfl CV.out.tx Tryz.underlying151 HNL.out HKM.out rfl ?_
    intro v2 hm2 hg2
    rw [HPUT.out] at hm2
    replace hm2 := mp_tight hm2
    rw [mapD_size] at hm2
    have C2 := hidI (CV.out.upT hg2 hm2 HASC.out)
    have R2 := hidI (RV.out.mapT hg2 CV.out)
    have B2 := BV.trans (gb_below hg2 (fun j e => by cases e; omega) (by omega))
    have sv2 := hg2.size
    have neT : some w.heap.size ≠ some (w.heap.size + 1) := fun e => by have := Option.some.inj e; omega
    have y2 := hidI (blk_kept yb.out hg2 (by omega) neT)
    have j0 := C2.out.blk 0 _ rfl
    have j1 := C2.out.blk 1 _ rfl
    have neD : some u1.heap.size ≠ some (w.heap.size + 1) := fun e => by have := Option.some.inj e; omega
    have z0 := (blk_kept (vs := [.int .i64 (hC x), .string (hT x)]) tD.out hg2 (by omega) neD) 0 _ rfl
    have z1 := (blk_kept (vs := [.int .i64 (hC x), .string (hT x)]) tD.out hg2 (by omega) neD) 1 _ rfl
    clear hHeld hm2 hg2
    refine hK.out _ _ ⟨j0, j1, z0, z1⟩ (fun hHeld => ?_)
    clear hK K hHeld
    try simp only [qq]
    refine wpAnyH_done (by kernel_rfl) ?_ _
    clear h0 h1 w0 w1 yb tD CV RV BV
    go_wp2
    go_roundw
    case rel => exact ⟨k + 1, by omega, by go_num, C2, R2, y2, B2, by omega⟩
    case measure => simp [Go.RowKit.intOf]; omega
  · obtain rfl : k = s.ts.length := by omega
    have C2 : Hid (ShC w.heap.size (w.heap.size + 4) (w.heap.size + 1) (w.heap.size + 2) (w.heap.size + 3) s.wd (s.ts.map (gT s.wd)) [] [] wr) := by have h := C1.out; rw [List.take_length] at h; exact h
    have z2 := Y1.out 2 _ rfl
    have S2 : Hid (Sh w.heap.size (w.heap.size + 4) (w.heap.size + 1) (w.heap.size + 2) (w.heap.size + 3) s.wd (s.ts.map (gT s.wd)) (s.rs.take 0) [] wr) := ⟨[], C2.out, R1.out⟩
    clear C1 C2 R1 Y1
    go_wp2_with fail
    go_loopw [46] (fun i wr => ∃ (k : Nat) (rv : List Value), k ≤ s.rs.length ∧ i = .int .i64 k ∧ Hid (Sh w.heap.size (w.heap.size + 4) (w.heap.size + 1) (w.heap.size + 2) (w.heap.size + 3) s.wd (s.ts.map (gT s.wd)) (s.rs.take k) rv wr) ∧ Below w.heap.size w wr) (fun i _ => s.rs.length - (Go.RowKit.intOf i).toNat)
    case atStart => exact ⟨0, [], Nat.zero_le _, rfl, S2, B1⟩
    case round =>
     obtain ⟨k, rv, hk, rfl, S3, B3⟩ := hrel
     by_cases hlt : k < s.rs.length
     · rcases HR.out with hss | ⟨rb, ro, hra, hrb, hrec⟩
       · rw [hss] at hlt; exact absurd hlt (Nat.not_lt_zero _)
       subst hra
       obtain ⟨ai, ci, r0, r1, r2, hV⟩ := rec_at (hrec k hlt) B3 hrb
       have HTK := hidI (take_rec hlt)
       have hkey : (s.rs.getD k r3z).key.size ≤ 1048700 := by have := (HRO.out k hlt).1.1; omega
       have htk : (s.rs.take k).length ≤ 1000 := by simp; omega
       generalize s.rs.getD k r3z = x at *
       clear hrec
       have bB : Below wr.heap.size wr (wr.alloc (.cells #[.string x.key, .slice ai x.gs.length ci, .string x.out] 82)) := (Below.refl _ _).alloc (Nat.le_refl _) _
       have S4 : Hid (Sh w.heap.size (w.heap.size + 4) (w.heap.size + 1) (w.heap.size + 2) (w.heap.size + 3) s.wd (s.ts.map (gT s.wd)) (s.rs.take k) rv (wr.alloc (.cells #[.string x.key, .slice ai x.gs.length ci, .string x.out] 82))) := S3.out.below bB
       have V4 := hV.kept (below_gb bB) (fun _ e => by cases e)
       have h59 := c90 _ _ _ _ _ _ _ _ _ x ai ci _ S4.out V4 htk hkey
       have hZq : w.heap.size ≤ wr.heap.size := B3.size
       clear S3 hV V4
       go_wp2_with fail
       refine h59.mono ?_
       rintro e u5 ⟨rfl, S5, B5⟩
       have S6 : Hid (Sh w.heap.size (w.heap.size + 4) (w.heap.size + 1) (w.heap.size + 2) (w.heap.size + 3) s.wd (s.ts.map (gT s.wd)) (s.rs.take (k + 1)) (rv ++ [.agg #[.string x.key, .slice ai x.gs.length ci, .string x.out]]) u5) := by show Sh _ _ _ _ _ _ _ _ _ _; rw [HTK.out]; exact S5
       have B6 : Below w.heap.size w u5 := (B3.trans (bB.mono hZq)).trans B5
       clear h59 S5 S4 B5
       go_wp2
       go_roundw
       case rel => exact ⟨k + 1, _, by omega, by go_num, S6, B6⟩
       case measure => simp [Go.RowKit.intOf]; omega
     · obtain rfl : k = s.rs.length := by omega
       have S7 : Hid (Sh w.heap.size (w.heap.size + 4) (w.heap.size + 1) (w.heap.size + 2) (w.heap.size + 3) s.wd (s.ts.map (gT s.wd)) s.rs rv wr) := by have h := S3.out; rw [List.take_length] at h; exact h
       clear S3
       go_wp2
       go_ret
       exact ⟨⟨_, _, _, _, rv, rfl, S7.out⟩, B3⟩
end Go.Proofs.YtboojefodbjbcaaGreatDoor
