import Derived.Test.YtkhlekmicpmpkaaGreatDoorK4
import Derived.Test.YtkhlekmicpmpkaaGreatDoorM0
import Derived.Test.YtkhlekmicpmpkaaGreatDoorZK18
namespace Go.Proofs.YtkhlekmicpmpkaaGreatDoor
open Go.RowKit Go.Maps
set_option maxRecDepth 100000
set_option linter.unusedVariables false
def fmR (c : Int) (t : ByteArray) : ByteArray := ofL (formR c t.data.toList)
def hC (t : ByteArray) : Int := ((t.data.toList.headD 0).toNat : Int) - 48
def hT (t : ByteArray) : ByteArray := ofL (t.data.toList.drop 2)
def hV (t : ByteArray) : Value := .agg #[.string t, .int .i64 (hC t), .string (hT t)]
def gT (W : Int) (t : ByteArray) : ByteArray × Value := (sumS t W, hV t)
theorem hV_inj {a b : ByteArray} (h : hV a = hV b) : a = b := by
 unfold hV at h
 simp at h
 exact h.1
theorem ofL_list (l : List UInt8) : (ofL l).data.toList = l := by simp [ofL]
theorem hV_read {l : List UInt8} {c : Int} {u : List UInt8} (h : IsR l c u true) : hC (ofL l) = c ∧ hT (ofL l) = ofL u := by
 obtain ⟨hv, rfl⟩ := h.1 rfl
 have := vr_code hv
 unfold hC hT
 rw [ofL_list]
 refine ⟨?_, rfl⟩
 simp only [List.headD_cons, UInt8.toNat_ofNat']
 omega
theorem fm_read {c : Int} {t : ByteArray} (h : vr c t.data.toList = true) : IsR (fmR c t).data.toList c t.data.toList true := by
 refine ⟨fun _ => ⟨h, ?_⟩, (fun h => by cases h)⟩
 unfold fmR
 rw [ofL_list]
 unfold formR
 rw [if_pos h]
theorem hV_fm {c : Int} {t : ByteArray} (h : vr c t.data.toList = true) : hV (fmR c t) = .agg #[.string (fmR c t), .int .i64 c, .string t] := by
 obtain ⟨h1, h2⟩ := hV_read (fm_read h)
 rw [ofL_self] at h1 h2
 unfold hV
 rw [h1, h2, ofL_self]
def insT (W : Int) (t : ByteArray) : List ByteArray → List ByteArray
 | [] => [t]
 | y :: r => if bef (sumS t W) (sumS y W) then t :: y :: r else y :: insT W t r
theorem insT_map (W : Int) (t : ByteArray) (ts : List ByteArray) : (insT W t ts).map (gT W) = insK (gT W t) (ts.map (gT W)) := by
 induction ts with
 | nil => rfl
 | cons y r ih =>
  unfold insT
  show _ = if bef (sumS t W) (sumS y W) = true then _ else _
  split
  · rfl
  · simp [ih]
def putT (W : Int) (t : ByteArray) (ts : List ByteArray) : List ByteArray × Bool :=
 match ts.find? (fun y => decide (sumS y W = sumS t W)) with
 | some y => (ts, decide (y = t))
 | none => (insT W t ts, true)
def putAll (W : Int) : List ByteArray → List ByteArray × Bool → List ByteArray × Bool
 | [], s => s
 | t :: r, s => putAll W r ((putT W t s.1).1, s.2 && (putT W t s.1).2)
theorem putAll_app (W : Int) (a b : List ByteArray) (s : List ByteArray × Bool) : putAll W (a ++ b) s = putAll W b (putAll W a s) := by
 induction a generalizing s with
 | nil => rfl
 | cons t r ih => exact ih _
theorem putAll_no (W : Int) (a : List ByteArray) (ts : List ByteArray) : (putAll W a (ts, false)).2 = false := by
 induction a generalizing ts with
 | nil => rfl
 | cons t r ih => exact ih _
def AscT (W : Int) (ts : List ByteArray) : Prop := Asc (ts.map (gT W))
theorem find_sum {W : Int} {t y : ByteArray} {ts : List ByteArray} (hA : AscT W ts) (hy : y ∈ ts) (hs : sumS y W = sumS t W) : ts.find? (fun y => decide (sumS y W = sumS t W)) = some y := by
 cases hq : ts.find? (fun y => decide (sumS y W = sumS t W)) with
 | none => exact absurd (by simpa using hs) (List.find?_eq_none.1 hq y hy)
 | some z =>
  have h1 := List.mem_of_find?_eq_some hq
  have h2 : sumS z W = sumS t W := by simpa using List.find?_some hq
  have e1 := getK_asc hA (List.mem_map_of_mem (f := gT W) hy)
  have e2 := getK_asc hA (List.mem_map_of_mem (f := gT W) h1)
  have e3 : getK (ts.map (gT W)) (sumS y W) = some (hV y) := e1
  have e4 : getK (ts.map (gT W)) (sumS z W) = some (hV z) := e2
  rw [hs] at e3
  rw [h2, e3] at e4
  rw [hV_inj (Option.some.inj e4)]
theorem find_no {W : Int} {t : ByteArray} {ts : List ByteArray} : ts.find? (fun y => decide (sumS y W = sumS t W)) = none ↔ getK (ts.map (gT W)) (sumS t W) = none := by
 rw [getK_none, List.find?_eq_none]
 constructor
 · intro h p hp
   obtain ⟨y, hy, rfl⟩ := List.mem_map.1 hp
   simpa [gT] using h y hy
 · intro h y hy
   simpa [gT] using h _ (List.mem_map_of_mem (f := gT W) hy)
theorem putT_asc {W : Int} {t : ByteArray} {ts : List ByteArray} (hA : AscT W ts) : AscT W (putT W t ts).1 := by
 unfold putT
 cases hq : ts.find? (fun y => decide (sumS y W = sumS t W)) with
 | some y => exact hA
 | none =>
  show Asc ((insT W t ts).map (gT W))
  rw [insT_map]
  exact insK_asc hA (fun p hp => getK_none.1 (find_no.1 hq) p hp)
theorem putAll_asc {W : Int} {a ts : List ByteArray} {b : Bool} (hA : AscT W ts) : AscT W (putAll W a (ts, b)).1 := by
 induction a generalizing ts b with
 | nil => exact hA
 | cons t r ih => exact ih (putT_asc hA)
structure Fr (W : Int) (l f : List (ByteArray × Value)) (ts : List ByteArray) : Prop where
 asc : AscT W ts
 perm : (ts.map (gT W)).Perm (f ++ l)
 la : Asc l
 fa : Asc f
 dis : ∀ p ∈ f, getK l p.1 = none
theorem Fr.start {W : Int} {ts : List ByteArray} (h : AscT W ts) : Fr W (ts.map (gT W)) [] ts := ⟨h, List.Perm.refl _, h, List.Pairwise.nil, by simp⟩
theorem Fr.met {W : Int} {l f : List (ByteArray × Value)} {ts : List ByteArray} (h : Fr W l f ts) {t : ByteArray} {v : Value} (hv : getK l (sumS t W) = some v ∨ getK f (sumS t W) = some v) : ∃ y, v = hV y ∧ putT W t ts = (ts, decide (y = t)) := by
 have hm : (sumS t W, v) ∈ ts.map (gT W) := h.perm.mem_iff.2 (by
  rcases hv with hv | hv
  · exact List.mem_append_right _ (getK_mem hv)
  · exact List.mem_append_left _ (getK_mem hv))
 obtain ⟨y, hy, e⟩ := List.mem_map.1 hm
 have e1 : sumS y W = sumS t W := congrArg Prod.fst e
 have e2 : hV y = v := congrArg Prod.snd e
 refine ⟨y, e2.symm, ?_⟩
 unfold putT
 rw [find_sum h.asc hy e1]
theorem Fr.add {W : Int} {l f : List (ByteArray × Value)} {ts : List ByteArray} (h : Fr W l f ts) {t : ByteArray} (h1 : getK l (sumS t W) = none) (h2 : getK f (sumS t W) = none) : putT W t ts = (insT W t ts, true) ∧ Fr W l (insK (gT W t) f) (insT W t ts) := by
 have hn : getK (ts.map (gT W)) (sumS t W) = none := getK_none.2 (fun p hp => by
  rcases List.mem_append.1 (h.perm.mem_iff.1 hp) with hp | hp
  · exact getK_none.1 h2 p hp
  · exact getK_none.1 h1 p hp)
 have e : putT W t ts = (insT W t ts, true) := by unfold putT; rw [find_no.2 hn]
 refine ⟨e, ?_, ?_, h.la, insK_asc h.fa (fun p hp => getK_none.1 h2 p hp), fun p hp => ?_⟩
 · have := putT_asc (t := t) h.asc
   rw [e] at this
   exact this
 · rw [insT_map]
   exact (insK_perm _ _).trans ((h.perm.cons _).trans ((insK_perm (gT W t) f).symm.append_right l))
 · rcases List.mem_cons.1 ((insK_perm _ _).mem_iff.1 hp) with rfl | hp
   · exact h1
   · exact h.dis p hp
theorem Fr.done {W : Int} {l f : List (ByteArray × Value)} {ts : List ByteArray} (h : Fr W l f ts) : Lib.mergeD (mapD l) (mapD f) = mapD (ts.map (gT W)) ∧ l.length + f.length = ts.length := by
 obtain ⟨m1, m2, m3⟩ := mapD_merge f l h.fa h.la h.dis
 refine ⟨?_, ?_⟩
 · rw [m3, asc_eq m1 h.asc (m2.trans h.perm.symm)]
 · have := h.perm.length_eq
   simp at this
   omega
def fmL (ls : List L4) (c : Int) (t : ByteArray) : List ByteArray := (askR ls ++ [(c, t)]).map fun r => fmR r.1 r.2
def recG (W : Int) (x : L4) : G3 := ⟨x.has, x.nm, sumS (glT x) W⟩
def recR (W : Int) (m : M3) (ls : List L4) (c : Int) (t : ByteArray) : R3 := ⟨keyR m, ls.map (recG W), sumS (fmR c t) W⟩
def st0 : St := ⟨0, [], []⟩
open Classical in
noncomputable def putR (rs : List R3) (x : R3) : List R3 := if x ∈ rs then rs else rs ++ [x]
open Classical in
noncomputable def keepF (s : St) (m : M3) (ls : List L4) (c : Int) (t : ByteArray) : St × Int :=
 if ¬ StOk s then (st0, 1) else if ¬ RanOk m ls c t then (st0, 2) else
 if (putAll s.wd (fmL ls c t) (s.ts, true)).2 = false then (st0, 3) else
 if 300 < (putAll s.wd (fmL ls c t) (s.ts, true)).1.length ∨ 150 < (putR s.rs (recR s.wd m ls c t)).length then (st0, 4) else
 (⟨s.wd, (putAll s.wd (fmL ls c t) (s.ts, true)).1, putR s.rs (recR s.wd m ls c t)⟩, 0)
theorem bl_eq : ∀ (a b : List UInt8), Op.bytesLess a b = bytesBefore a b
 | [], [] => by simp [Op.bytesLess, bytesBefore]
 | [], _ :: _ => by simp [Op.bytesLess, bytesBefore]
 | _ :: _, [] => by simp [Op.bytesLess, bytesBefore]
 | x :: r, y :: s => by
  have := bl_eq r s
  simp only [Op.bytesLess, bytesBefore]
  rw [this]
theorem asc_of_ok {s : St} (h : StOk s) : AscT s.wd s.ts := by
 obtain ⟨_, ⟨_, h2⟩, _⟩ := h
 have key : ∀ (ts : List ByteArray), (∀ k, k < ts.length → k = 0 ∨ bef (sumS (ts.getD (k - 1) ByteArray.empty) s.wd) (sumS (ts.getD k ByteArray.empty) s.wd) = true) → AscT s.wd ts := by
  intro ts
  induction ts with
  | nil => intro _; exact List.Pairwise.nil
  | cons y r ih =>
   intro h
   have hr : AscT s.wd r := ih (fun k hk => by
    by_cases h0 : k = 0
    · exact .inl h0
    · refine .inr ?_
      have := (h (k + 1) (by simp; omega)).resolve_left (by omega)
      simp only [Nat.add_sub_cancel] at this
      have e1 : (y :: r).getD (k + 1) ByteArray.empty = r.getD k ByteArray.empty := rfl
      have e2 : (y :: r).getD k ByteArray.empty = r.getD (k - 1) ByteArray.empty := by
       obtain ⟨j, rfl⟩ : ∃ j, k = j + 1 := ⟨k - 1, by omega⟩
       rfl
      rw [e1, e2] at this
      exact this)
   refine List.pairwise_cons.2 ⟨fun p hp => ?_, hr⟩
   cases r with
   | nil => cases hp
   | cons z q =>
    have h1 := (h 1 (by simp)).resolve_left (by omega)
    have h1' : bef (sumS y s.wd) (sumS z s.wd) = true := h1
    rcases List.mem_cons.1 hp with rfl | hp
    · exact h1'
    · exact bef_tr h1' ((List.pairwise_cons.1 hr).1 p hp)
 refine key s.ts (fun k hk => ?_)
 rcases (h2 k hk).2 with h0 | h0
 · exact .inl h0
 · refine .inr ?_
   rw [bl_eq] at h0
   unfold bef
   rw [← ByteArray.toList_eq, ← ByteArray.toList_eq]
   exact h0
end Go.Proofs.YtkhlekmicpmpkaaGreatDoor
