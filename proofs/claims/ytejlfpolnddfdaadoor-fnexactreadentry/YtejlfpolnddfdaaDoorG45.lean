import Derived.Test.YtejlfpolnddfdaaDoorEA
import Derived.Test.YtejlfpolnddfdaaDoorY3
import Derived.Test.YtejlfpolnddfdaaDoorX5
namespace Go.Proofs.YtejlfpolnddfdaaDoor
open Go.RowKit
set_option linter.unusedVariables false
def Sm26 (ep : Int) (fn ft kn kt ka : ByteArray) (cd : Int) (tx : ByteArray) (ep2 : Int) (fn2 ft2 kn2 kt2 ka2 : ByteArray) (cd2 : Int) (tx2 : ByteArray) (la lb : Nat) : Prop := ep = ep2 ∧ fn = fn2 ∧ ft = ft2 ∧ kn = kn2 ∧ kt = kt2 ∧ ka = ka2 ∧ la = lb ∧ cd = cd2 ∧ tx = tx2
set_option maxHeartbeats 8000000 in
set_option maxRecDepth 100000 in
theorem c26 (kd ep cd kd2 ep2 cd2 : Int) (fn ft kn kt ka tx fn2 ft2 kn2 kt2 ka2 tx2 : ByteArray) (ai bi : Option Addr) (la lb ci di : Nat) (w : World) (hla : la ≤ 1048576) (hlb : lb ≤ 1048576) :
    Calls Tryd.prog 26 #[.agg #[.int .i64 kd, .int .i64 ep, .string fn, .string ft, .string kn, .string kt, .string ka, .slice ai la ci, .int .i64 cd, .string tx], .agg #[.int .i64 kd2, .int .i64 ep2, .string fn2, .string ft2, .string kn2, .string kt2, .string ka2, .slice bi lb di, .int .i64 cd2, .string tx2]] w fun e w' => IsB (Sm26 ep fn ft kn kt ka cd tx ep2 fn2 ft2 kn2 kt2 ka2 cd2 tx2 la lb) e ∧ Below w.heap.size w w' := by
  have hB0 : ∀ o p, Below w.heap.size w ((w.alloc o).alloc p) := fun o p => ((Below.refl _ _).alloc (Nat.le_refl _) _).alloc (by simp) _
  rcases (Classical.em (ep = ep2)).symm with e0 | e0
  · have HN : Hid (IsB (Sm26 ep fn ft kn kt ka cd tx ep2 fn2 ft2 kn2 kt2 ka2 cd2 tx2 la lb) (.returned (.bool false))) := isB_no (fun h => e0 h.1)
    go_enter Tryd.func26, Tryd.ntmps26
    go_wp2
    all_goals go_ret
    all_goals exact ⟨HN.out, hB0 _ _⟩
  obtain rfl := e0
  rcases (Classical.em (fn.toList = fn2.toList)).symm with e1 | e1
  · have HN : Hid (IsB (Sm26 ep fn ft kn kt ka cd tx ep fn2 ft2 kn2 kt2 ka2 cd2 tx2 la lb) (.returned (.bool false))) := isB_no (fun h => e1 (by rw [h.2.1]))
    go_enter Tryd.func26, Tryd.ntmps26
    go_wp2
    all_goals go_ret
    all_goals exact ⟨HN.out, hB0 _ _⟩
  obtain rfl := (ba_iff _ _).1 e1
  clear e1
  rcases (Classical.em (ft.toList = ft2.toList)).symm with e2 | e2
  · have HN : Hid (IsB (Sm26 ep fn ft kn kt ka cd tx ep fn ft2 kn2 kt2 ka2 cd2 tx2 la lb) (.returned (.bool false))) := isB_no (fun h => e2 (by rw [h.2.2.1]))
    go_enter Tryd.func26, Tryd.ntmps26
    go_wp2
    all_goals go_ret
    all_goals exact ⟨HN.out, hB0 _ _⟩
  obtain rfl := (ba_iff _ _).1 e2
  clear e2
  rcases (Classical.em (kn.toList = kn2.toList)).symm with e3 | e3
  · have HN : Hid (IsB (Sm26 ep fn ft kn kt ka cd tx ep fn ft kn2 kt2 ka2 cd2 tx2 la lb) (.returned (.bool false))) := isB_no (fun h => e3 (by rw [h.2.2.2.1]))
    go_enter Tryd.func26, Tryd.ntmps26
    go_wp2
    all_goals go_ret
    all_goals exact ⟨HN.out, hB0 _ _⟩
  obtain rfl := (ba_iff _ _).1 e3
  clear e3
  rcases (Classical.em (kt.toList = kt2.toList)).symm with e4 | e4
  · have HN : Hid (IsB (Sm26 ep fn ft kn kt ka cd tx ep fn ft kn kt2 ka2 cd2 tx2 la lb) (.returned (.bool false))) := isB_no (fun h => e4 (by rw [h.2.2.2.2.1]))
    go_enter Tryd.func26, Tryd.ntmps26
    go_wp2
    all_goals go_ret
    all_goals exact ⟨HN.out, hB0 _ _⟩
  obtain rfl := (ba_iff _ _).1 e4
  clear e4
  rcases (Classical.em (ka.toList = ka2.toList)).symm with e5 | e5
  · have HN : Hid (IsB (Sm26 ep fn ft kn kt ka cd tx ep fn ft kn kt ka2 cd2 tx2 la lb) (.returned (.bool false))) := isB_no (fun h => e5 (by rw [h.2.2.2.2.2.1]))
    go_enter Tryd.func26, Tryd.ntmps26
    go_wp2
    all_goals go_ret
    all_goals exact ⟨HN.out, hB0 _ _⟩
  obtain rfl := (ba_iff _ _).1 e5
  clear e5
  rcases (Classical.em (la = lb)).symm with hlen | hlen
  · have HN : Hid (IsB (Sm26 ep fn ft kn kt ka cd tx ep fn ft kn kt ka cd2 tx2 la lb) (.returned (.bool false))) := isB_no (fun h => hlen h.2.2.2.2.2.2.1)
    have hlen2 : ¬ (la : Int) = (lb : Int) := by omega
    go_enter Tryd.func26, Tryd.ntmps26
    go_wp2
    all_goals go_ret
    all_goals exact ⟨HN.out, hB0 _ _⟩
  obtain rfl := hlen
  rcases (Classical.em (cd = cd2)).symm with e7 | e7
  · have HN : Hid (IsB (Sm26 ep fn ft kn kt ka cd tx ep fn ft kn kt ka cd2 tx2 la la) (.returned (.bool false))) := isB_no (fun h => e7 h.2.2.2.2.2.2.2.1)
    go_enter Tryd.func26, Tryd.ntmps26
    go_wp2
    all_goals go_ret
    all_goals exact ⟨HN.out, hB0 _ _⟩
  obtain rfl := e7
  rcases (Classical.em (tx.toList = tx2.toList)).symm with e8 | e8
  · have HN : Hid (IsB (Sm26 ep fn ft kn kt ka cd tx ep fn ft kn kt ka cd tx2 la la) (.returned (.bool false))) := isB_no (fun h => e8 (by rw [h.2.2.2.2.2.2.2.2]))
    go_enter Tryd.func26, Tryd.ntmps26
    go_wp2
    all_goals go_ret
    all_goals exact ⟨HN.out, hB0 _ _⟩
  obtain rfl := (ba_iff _ _).1 e8
  clear e8
  have HN : Hid (IsB (Sm26 ep fn ft kn kt ka cd tx ep fn ft kn kt ka cd tx la la) (.returned (.bool true))) := isB_yes ⟨rfl, rfl, rfl, rfl, rfl, rfl, rfl, rfl, rfl⟩
  go_enter Tryd.func26, Tryd.ntmps26
  go_wp2
  all_goals go_ret
  all_goals exact ⟨HN.out, hB0 _ _⟩
end Go.Proofs.YtejlfpolnddfdaaDoor
namespace Go.Proofs.YtejlfpolnddfdaaDoor
open Go.RowKit
set_option maxHeartbeats 2000000 in
theorem c97 (n : Int) (w : World) :
    Calls Tryd.prog 97 #[.int .i64 n] w fun e w' => IsB (1 ≤ n ∧ n ≤ 200) e ∧ Below w.heap.size w w' := by
  go_enter Tryd.func97, Tryd.ntmps97
  go_wp2_with fail
  refine (c98 n _).mono ?_
  rintro e w1 ⟨rfl, rfl⟩
  go_wp2
  go_ret
  exact ⟨⟨_, rfl, by simp⟩, Below.refl _ _⟩
set_option maxHeartbeats 2000000 in
theorem c101 (a b : ByteArray) (w : World) (ha : a.size ≤ 1048700) (hb : b.size ≤ 1048700) :
    Calls Tryd.prog 101 #[.agg #[.string a, .string b]] w fun e w' => IsB (nameOk a.data.toList = true ∧ b.size ≤ 300) e ∧ Below w.heap.size w w' := by
  have hB0 : ∀ o, Below w.heap.size w (w.alloc o) := fun o => (Below.refl _ _).alloc (Nat.le_refl _) _
  go_enter Tryd.func101, Tryd.ntmps101
  go_wp2_with fail
  refine (c75 a _ ha).mono ?_
  rintro e w1 ⟨rfl, rfl⟩
  cases hn : nameOk a.data.toList
  · have HN : Hid (IsB (nameOk a.data.toList = true ∧ b.size ≤ 300) (.returned (.bool false))) := isB_no (fun h => by rw [hn] at h; cases h.1)
    go_wp2
    go_ret
    exact ⟨HN.out, hB0 _⟩
  · by_cases h3 : b.size ≤ 300
    · have e3 : decide ((b.size : Int) ≤ 300) = true := by simp; omega
      go_wp2
      go_ret
      exact ⟨⟨true, rfl, ⟨fun _ => ⟨hn, h3⟩, fun _ => rfl⟩⟩, hB0 _⟩
    · have e3 : decide ((b.size : Int) ≤ 300) = false := by simp; omega
      go_wp2
      go_ret
      exact ⟨⟨false, rfl, ⟨(fun h => by cases h), fun h => absurd h.2 h3⟩⟩, hB0 _⟩
set_option maxHeartbeats 2000000 in
theorem c28 (a b : ByteArray) (w : World) (ha : a.size ≤ 1048700) (hb : b.size ≤ 1048700) :
    Calls Tryd.prog 28 #[.agg #[.string a, .string b]] w fun e w' => IsB (nameOk a.data.toList = true ∧ b.size ≤ 300) e ∧ Below w.heap.size w w' := by
  have hB0 : ∀ o, Below w.heap.size w (w.alloc o) := fun o => (Below.refl _ _).alloc (Nat.le_refl _) _
  go_enter Tryd.func28, Tryd.ntmps28
  go_wp2_with fail
  refine (c30 a _ ha).mono ?_
  rintro e w1 ⟨rfl, rfl⟩
  cases hn : nameOk a.data.toList
  · have HN : Hid (IsB (nameOk a.data.toList = true ∧ b.size ≤ 300) (.returned (.bool false))) := isB_no (fun h => by rw [hn] at h; cases h.1)
    go_wp2
    go_ret
    exact ⟨HN.out, hB0 _⟩
  · by_cases h3 : b.size ≤ 300
    · have e3 : decide ((b.size : Int) ≤ 300) = true := by simp; omega
      go_wp2
      go_ret
      exact ⟨⟨true, rfl, ⟨fun _ => ⟨hn, h3⟩, fun _ => rfl⟩⟩, hB0 _⟩
    · have e3 : decide ((b.size : Int) ≤ 300) = false := by simp; omega
      go_wp2
      go_ret
      exact ⟨⟨false, rfl, ⟨(fun h => by cases h), fun h => absurd h.2 h3⟩⟩, hB0 _⟩
set_option maxHeartbeats 2000000 in
theorem c100 (a b : ByteArray) (w : World) (ha : a.size ≤ 1048700) (hb : b.size ≤ 1048700) :
    Calls Tryd.prog 100 #[.agg #[.string a, .string b]] w fun e w' => IsB (nameOk a.data.toList = true ∧ b.size ≤ 300) e ∧ Below w.heap.size w w' := by
  have hB0 : ∀ o, Below w.heap.size w (w.alloc o) := fun o => (Below.refl _ _).alloc (Nat.le_refl _) _
  go_enter Tryd.func100, Tryd.ntmps100
  go_wp2_with fail
  refine (c101 a b _ ha hb).mono ?_
  rintro e w1 ⟨⟨r, rfl, hr⟩, hb1⟩
  go_wp2
  go_ret
  exact ⟨⟨r, rfl, hr⟩, (hB0 _).trans (hb1.mono (by simp))⟩
set_option maxHeartbeats 2000000 in
theorem c103 (a : ByteArray) (w : World) (ha : a.size ≤ 1048700) :
    Calls Tryd.prog 103 #[.string a] w fun e w' => IsB (nameOk a.data.toList = true) e ∧ Below w.heap.size w w' := by
  go_enter Tryd.func103, Tryd.ntmps103
  go_wp2_with fail
  refine (c75 a _ ha).mono ?_
  rintro e w1 ⟨rfl, rfl⟩
  go_wp2
  go_ret
  exact ⟨⟨_, rfl, Iff.rfl⟩, Below.refl _ _⟩
set_option maxHeartbeats 2000000 in
theorem c110 (w : World) :
    Calls Tryd.prog 110 #[.agg #[]] w fun e w' => IsB True e ∧ Below w.heap.size w w' := by
  have hB0 : ∀ o, Below w.heap.size w (w.alloc o) := fun o => (Below.refl _ _).alloc (Nat.le_refl _) _
  go_enter Tryd.func110, Tryd.ntmps110
  go_wp2
  go_ret
  exact ⟨isB_yes trivial, by first | exact hB0 _ | exact Below.refl _ _⟩
def RanOk (m : M3) (ls : List L4) (c : Int) (t : ByteArray) : Prop := okM m = true ∧ LksOk ls ∧ vr c t.data.toList = true
set_option maxHeartbeats 4000000 in
set_option maxRecDepth 100000 in
theorem c105 (m : M3) (ls : List L4) (c : Int) (t : ByteArray) (ai : Option Addr) (ci : Nat) (w : World) (hm : m.le 1048576) (hl : ls.length ≤ 1048576) (hs : ∀ i, (ls.getD i l4z).le 1048576) (ht : t.size ≤ 1048576) (hat : LksAt w ai ls) :
    Calls Tryd.prog 105 #[.agg #[.string m.nm, .string m.tl, .string m.ar, .slice ai ls.length ci, .int .i64 c, .string t]] w fun e w' => IsB (RanOk m ls c t) e ∧ Below w.heap.size w w' := by
  have hB0 : ∀ o, Below w.heap.size w (w.alloc o) := fun o => (Below.refl _ _).alloc (Nat.le_refl _) _
  go_enter Tryd.func105, Tryd.ntmps105
  go_wp2_with fail
  refine (c64 m _ ⟨Nat.le_trans hm.1 (by omega), Nat.le_trans hm.2.1 (by omega), Nat.le_trans hm.2.2 (by omega)⟩).mono ?_
  rintro e w1 ⟨rfl, hb1⟩
  have hx1 : Below (w.heap.size + 1) (w.alloc (.cells #[.string m.nm, .string m.tl, .string m.ar, .slice ai ls.length ci, .int .i64 c, .string t] 74)) w1 := by simpa using hb1
  have bA := (blk_new w [.string m.nm, .string m.tl, .string m.ar, .slice ai ls.length ci, .int .i64 c, .string t] 74).below hx1 (by omega)
  have hB1 : Below w.heap.size w w1 := (hB0 _).trans (hx1.mono (by omega))
  have hz1 : w.heap.size < w1.heap.size := by have h := hx1.size; simp at h; omega
  have k3 := bA 3 _ rfl
  clear hb1
  cases hn : okM m
  · have HN : Hid (IsB (RanOk m ls c t) (.returned (.bool false))) := isB_no (fun h => by have h1 := h.1; rw [hn] at h1; cases h1)
    go_wp2
    go_ret
    exact ⟨HN.out, hB1⟩
  · go_wp2_with fail
    refine (c106 ai ci ls _ hl hs (lks_below hat hB1)).mono ?_
    rintro e w2 ⟨⟨r, rfl, hr⟩, hb2⟩
    have hB2 : Below w.heap.size w w2 := hB1.trans (hb2.mono hB1.size)
    have bA2 := bA.below hb2 hz1
    have k4 := bA2 4 _ rfl
    have k5 := bA2 5 _ rfl
    clear hb2
    cases r
    · have HN : Hid (IsB (RanOk m ls c t) (.returned (.bool false))) := isB_no (fun h => absurd (hr.2 h.2.1) (by decide))
      clear hr
      go_wp2
      go_ret
      exact ⟨HN.out, hB2⟩
    · have hl' := hr.1 rfl
      clear hr
      go_wp2_with fail
      refine (c107 c t _ (by omega)).mono ?_
      rintro e w3 ⟨rfl, hb3⟩
      have hB3 : Below w.heap.size w w3 := hB2.trans (hb3.mono hB2.size)
      have HN : Hid (IsB (RanOk m ls c t) (.returned (.bool (vr c t.data.toList)))) := ⟨_, rfl, ⟨fun h => ⟨hn, hl', h⟩, fun h => h.2.2⟩⟩
      go_wp2
      go_ret
      exact ⟨HN.out, hB3⟩
end Go.Proofs.YtejlfpolnddfdaaDoor
namespace Go.Proofs.YtejlfpolnddfdaaDoor
open Go.RowKit
set_option linter.unusedVariables false
/-- A text where something holds, none where not. -/
def IsT (P : Prop) (l : List UInt8) (e : Ending) : Prop := ∃ s, e = .returned (.string s) ∧ ((P ∧ s = ofL l) ∨ (¬ P ∧ s = ⟨#[]⟩))
theorem isT_no {P : Prop} {l : List UInt8} (h : ¬ P) : IsT P l (.returned (.string ⟨#[]⟩)) := ⟨_, rfl, .inr ⟨h, rfl⟩⟩
theorem IsT.congr {P Q : Prop} {l k : List UInt8} {e : Ending} (h : IsT P l e) (hp : P ↔ Q) (hl : P → l = k) : IsT Q k e := by
  obtain ⟨s, rfl, h⟩ := h
  refine ⟨s, rfl, ?_⟩
  rcases h with ⟨h1, h2⟩ | ⟨h1, h2⟩
  · exact .inl ⟨hp.1 h1, by rw [h2, hl h1]⟩
  · exact .inr ⟨fun h => h1 (hp.2 h), h2⟩
set_option maxHeartbeats 4000000 in
set_option maxRecDepth 100000 in
theorem c31 (m : M3) (ls : List L4) (c : Int) (t : ByteArray) (ai : Option Addr) (ci : Nat) (w : World) (hm : m.le 1048576) (hl : ls.length ≤ 1048576) (hs : ∀ i, (ls.getD i l4z).le 1048576) (ht : t.size ≤ 1048576) (hat : LksAt w ai ls) :
    Calls Tryd.prog 31 #[.agg #[.string m.nm, .string m.tl, .string m.ar], .slice ai ls.length ci, .agg #[.int .i64 c, .string t]] w fun e w' => IsB (RanOk m ls c t) e ∧ Below w.heap.size w w' := by
  go_enter Tryd.func31, Tryd.ntmps31
  go_wp2_with fail
  refine (c38 m _ ⟨Nat.le_trans hm.1 (by omega), Nat.le_trans hm.2.1 (by omega), Nat.le_trans hm.2.2 (by omega)⟩).mono ?_
  rintro e w1 ⟨rfl, hb1⟩
  have hx1 : Below (w.heap.size + 2) ((w.alloc (.cells #[.string m.nm, .string m.tl, .string m.ar] 25)).alloc (.cells #[.int .i64 c, .string t] 28)) w1 := by have h := hb1; simp at h; exact h
  have bA : BlkAt ((w.alloc (.cells #[.string m.nm, .string m.tl, .string m.ar] 25)).alloc (.cells #[.int .i64 c, .string t] 28)) (w.heap.size + 1) [.int .i64 c, .string t] := by have h := blk_new (w.alloc (.cells #[.string m.nm, .string m.tl, .string m.ar] 25)) [.int .i64 c, .string t] 28; simp at h; exact h
  have bA1 := bA.below hx1 (by omega)
  have hB1 : Below w.heap.size w w1 := (((Below.refl _ _).alloc (Nat.le_refl _) _).alloc (by simp) _).trans (hx1.mono (by omega))
  have hz1 : w.heap.size + 1 < w1.heap.size := by have h := hx1.size; simp at h; omega
  clear hb1 bA
  cases hn : okM m
  · have HN : Hid (IsB (RanOk m ls c t) (.returned (.bool false))) := isB_no (fun h => by have h1 := h.1; rw [hn] at h1; cases h1)
    go_wp2
    go_ret
    exact ⟨HN.out, hB1⟩
  · go_wp2_with fail
    refine (c39 ai ci ls _ hl hs (lks_below hat hB1)).mono ?_
    rintro e w2 ⟨⟨r, rfl, hr⟩, hb2⟩
    have hB2 : Below w.heap.size w w2 := hB1.trans (hb2.mono hB1.size)
    have bA2 := bA1.below hb2 hz1
    have k0 := bA2 0 _ rfl
    have k1 := bA2 1 _ rfl
    clear hb2
    cases r
    · have HN : Hid (IsB (RanOk m ls c t) (.returned (.bool false))) := isB_no (fun h => absurd (hr.2 h.2.1) (by decide))
      clear hr
      go_wp2
      go_ret
      exact ⟨HN.out, hB2⟩
    · have hl' := hr.1 rfl
      clear hr
      go_wp2_with fail
      refine (c40 c t _ (by omega)).mono ?_
      rintro e w3 ⟨rfl, hb3⟩
      have hB3 : Below w.heap.size w w3 := hB2.trans (hb3.mono hB2.size)
      have HN : Hid (IsB (RanOk m ls c t) (.returned (.bool (vr c t.data.toList)))) := ⟨_, rfl, ⟨fun h => ⟨hn, hl', h⟩, fun h => h.2.2⟩⟩
      go_wp2
      go_ret
      exact ⟨HN.out, hB3⟩
end Go.Proofs.YtejlfpolnddfdaaDoor
namespace Go.Proofs.YtejlfpolnddfdaaDoor
open Go.RowKit
set_option linter.unusedVariables false
theorem sm_1 {x : N10} (hk : x.kd = 1) : Sm26 x.ep x.fn x.ft x.km.nm x.km.tl x.km.ar x.cd x.tx x.ep ⟨#[]⟩ ⟨#[]⟩ ⟨#[]⟩ ⟨#[]⟩ ⟨#[]⟩ 0 ⟨#[]⟩ x.ls.length 0 ↔ x = eEpoch x.ep := by
  obtain ⟨kd, ep, fn, ft, ⟨kn, kt, ka⟩, ls, cd, tx⟩ := x
  dsimp only at hk
  subst hk
  unfold Sm26
  constructor
  · rintro ⟨h1, h2, h3, h4, h5, h6, h7, h8, h9⟩
    dsimp only at *
    (try (have h7' : ls = [] := List.length_eq_zero_iff.1 h7; subst h7'))
    subst_vars
    rfl
  · intro h
    obtain ⟨-, h1, h2, h3, h4, h7, h8, h9⟩ := N10.mk.inj h
    obtain ⟨h4, h5, h6⟩ := M3.mk.inj h4
    exact ⟨h1, h2, h3, h4, h5, h6, by first | rfl | (rw [h7]; rfl), h8, h9⟩
theorem sm_2 {x : N10} (hk : x.kd = 2) : Sm26 x.ep x.fn x.ft x.km.nm x.km.tl x.km.ar x.cd x.tx 0 x.fn x.ft ⟨#[]⟩ ⟨#[]⟩ ⟨#[]⟩ 0 ⟨#[]⟩ x.ls.length 0 ↔ x = eFile x.fn x.ft := by
  obtain ⟨kd, ep, fn, ft, ⟨kn, kt, ka⟩, ls, cd, tx⟩ := x
  dsimp only at hk
  subst hk
  unfold Sm26
  constructor
  · rintro ⟨h1, h2, h3, h4, h5, h6, h7, h8, h9⟩
    dsimp only at *
    (try (have h7' : ls = [] := List.length_eq_zero_iff.1 h7; subst h7'))
    subst_vars
    rfl
  · intro h
    obtain ⟨-, h1, h2, h3, h4, h7, h8, h9⟩ := N10.mk.inj h
    obtain ⟨h4, h5, h6⟩ := M3.mk.inj h4
    exact ⟨h1, h2, h3, h4, h5, h6, by first | rfl | (rw [h7]; rfl), h8, h9⟩
theorem sm_3 {x : N10} (hk : x.kd = 3) : Sm26 x.ep x.fn x.ft x.km.nm x.km.tl x.km.ar x.cd x.tx 0 x.fn ⟨#[]⟩ ⟨#[]⟩ ⟨#[]⟩ ⟨#[]⟩ 0 ⟨#[]⟩ x.ls.length 0 ↔ x = eDrop x.fn := by
  obtain ⟨kd, ep, fn, ft, ⟨kn, kt, ka⟩, ls, cd, tx⟩ := x
  dsimp only at hk
  subst hk
  unfold Sm26
  constructor
  · rintro ⟨h1, h2, h3, h4, h5, h6, h7, h8, h9⟩
    dsimp only at *
    (try (have h7' : ls = [] := List.length_eq_zero_iff.1 h7; subst h7'))
    subst_vars
    rfl
  · intro h
    obtain ⟨-, h1, h2, h3, h4, h7, h8, h9⟩ := N10.mk.inj h
    obtain ⟨h4, h5, h6⟩ := M3.mk.inj h4
    exact ⟨h1, h2, h3, h4, h5, h6, by first | rfl | (rw [h7]; rfl), h8, h9⟩
theorem sm_4 {x : N10} (hk : x.kd = 4) : Sm26 x.ep x.fn x.ft x.km.nm x.km.tl x.km.ar x.cd x.tx 0 ⟨#[]⟩ ⟨#[]⟩ x.km.nm x.km.tl x.km.ar x.cd x.tx x.ls.length x.ls.length ↔ x = eRan x.km x.ls x.cd x.tx := by
  obtain ⟨kd, ep, fn, ft, ⟨kn, kt, ka⟩, ls, cd, tx⟩ := x
  dsimp only at hk
  subst hk
  unfold Sm26
  constructor
  · rintro ⟨h1, h2, h3, h4, h5, h6, h7, h8, h9⟩
    dsimp only at *
    (try (have h7' : ls = [] := List.length_eq_zero_iff.1 h7; subst h7'))
    subst_vars
    rfl
  · intro h
    obtain ⟨-, h1, h2, h3, h4, h7, h8, h9⟩ := N10.mk.inj h
    obtain ⟨h4, h5, h6⟩ := M3.mk.inj h4
    exact ⟨h1, h2, h3, h4, h5, h6, by first | rfl | (rw [h7]; rfl), h8, h9⟩
theorem sm_5 {x : N10} (hk : x.kd = 5) : Sm26 x.ep x.fn x.ft x.km.nm x.km.tl x.km.ar x.cd x.tx 0 ⟨#[]⟩ ⟨#[]⟩ ⟨#[]⟩ ⟨#[]⟩ ⟨#[]⟩ 0 ⟨#[]⟩ x.ls.length 0 ↔ x = eClear := by
  obtain ⟨kd, ep, fn, ft, ⟨kn, kt, ka⟩, ls, cd, tx⟩ := x
  dsimp only at hk
  subst hk
  unfold Sm26
  constructor
  · rintro ⟨h1, h2, h3, h4, h5, h6, h7, h8, h9⟩
    dsimp only at *
    (try (have h7' : ls = [] := List.length_eq_zero_iff.1 h7; subst h7'))
    subst_vars
    rfl
  · intro h
    obtain ⟨-, h1, h2, h3, h4, h7, h8, h9⟩ := N10.mk.inj h
    obtain ⟨h4, h5, h6⟩ := M3.mk.inj h4
    exact ⟨h1, h2, h3, h4, h5, h6, by first | rfl | (rw [h7]; rfl), h8, h9⟩
theorem ok_1 {x : N10} (hk : x.kd = 1) : EntOk x ↔ (x = eEpoch x.ep ∧ (1 ≤ x.ep ∧ x.ep ≤ 200)) := by
  constructor
  · intro h
    obtain ⟨n, h1, rfl⟩ := is_epoch h hk
    exact ⟨rfl, h1⟩
  · rintro ⟨h1, h2⟩
    exact .inl ⟨_, h2, h1⟩
theorem ok_2 {x : N10} (hk : x.kd = 2) : EntOk x ↔ (x = eFile x.fn x.ft ∧ (nameOk x.fn.data.toList = true ∧ x.ft.size ≤ 300)) := by
  constructor
  · intro h
    obtain ⟨a, b, h1, rfl⟩ := is_file h hk
    exact ⟨rfl, h1⟩
  · rintro ⟨h1, h2⟩
    exact .inr (.inl ⟨_, _, h2, h1⟩)
theorem ok_3 {x : N10} (hk : x.kd = 3) : EntOk x ↔ (x = eDrop x.fn ∧ nameOk x.fn.data.toList = true) := by
  constructor
  · intro h
    obtain ⟨a, h1, rfl⟩ := is_drop h hk
    exact ⟨rfl, h1⟩
  · rintro ⟨h1, h2⟩
    exact .inr (.inr (.inl ⟨_, h2, h1⟩))
theorem ok_4 {x : N10} (hk : x.kd = 4) : EntOk x ↔ (x = eRan x.km x.ls x.cd x.tx ∧ RanOk x.km x.ls x.cd x.tx) := by
  constructor
  · intro h
    obtain ⟨m, ls, c, t, h1, rfl⟩ := is_ran h hk
    exact ⟨rfl, h1⟩
  · rintro ⟨h1, h2⟩
    exact .inr (.inr (.inr (.inl ⟨_, _, _, _, h2, h1⟩)))
theorem ok_5 {x : N10} (hk : x.kd = 5) : EntOk x ↔ x = eClear := by
  constructor
  · intro h
    exact is_clear h hk
  · intro h
    exact .inr (.inr (.inr (.inr h)))
theorem ent_1 (n : Int) : (⟨#[101, 112, 111, 99, 104, 32]⟩ : ByteArray) ++ ofL (dec n) ++ ⟨#[10]⟩ = ofL (entL (eEpoch n)) := by
  show ofL [101, 112, 111, 99, 104, 32] ++ ofL (dec n) ++ ofL [10] = _
  rw [cat_ofL, cat_ofL]
  simp [entL, linesE, eEpoch, joinN, wEpoch]
theorem ent_2 (a b : ByteArray) : (⟨#[102, 105, 108, 101, 32]⟩ : ByteArray) ++ a ++ ⟨#[32]⟩ ++ ofL (quoteL b.data.toList) ++ ⟨#[10]⟩ = ofL (entL (eFile a b)) := by
  show ofL [102, 105, 108, 101, 32] ++ ofL a.data.toList ++ ofL [32] ++ ofL (quoteL b.data.toList) ++ ofL [10] = _
  rw [cat_ofL, cat_ofL, cat_ofL, cat_ofL]
  simp [entL, linesE, eFile, joinN, wFile]
theorem ent_3 (a : ByteArray) : (⟨#[100, 114, 111, 112, 32]⟩ : ByteArray) ++ a ++ ⟨#[10]⟩ = ofL (entL (eDrop a)) := by
  show ofL [100, 114, 111, 112, 32] ++ ofL a.data.toList ++ ofL [10] = _
  rw [cat_ofL, cat_ofL]
  simp [entL, linesE, eDrop, joinN, wDrop]
theorem ent_4 (m : M3) (ls : List L4) (c : Int) (t : ByteArray) : (⟨#[114, 97, 110, 32]⟩ : ByteArray) ++ m.nm ++ ⟨#[32]⟩ ++ m.tl ++ ⟨#[32]⟩ ++ ofL (quoteL m.ar.data.toList) ++ ⟨#[10]⟩ ++ ofL (looksL ls) ++ ⟨#[103, 97, 118, 101, 32]⟩ ++ ofL (resL c t) ++ ⟨#[10]⟩ = ofL (entL (eRan m ls c t)) := by
  show ofL [114, 97, 110, 32] ++ ofL m.nm.data.toList ++ ofL [32] ++ ofL m.tl.data.toList ++ ofL [32] ++ ofL (quoteL m.ar.data.toList) ++ ofL [10] ++ ofL (looksL ls) ++ ofL [103, 97, 118, 101, 32] ++ ofL (resL c t) ++ ofL [10] = _
  simp only [cat_ofL]
  rw [looksL_join]
  simp [entL, linesE, eRan, joinN, wRan, wGave, body_form]
theorem ent_5 : (⟨#[99, 108, 101, 97, 114, 10]⟩ : ByteArray) = ofL (entL eClear) := by
  simp [entL, linesE, eClear, joinN, wClear, ofL]
set_option maxHeartbeats 16000000 in
set_option maxRecDepth 100000 in
theorem c15_1 (x : N10) (hk : x.kd = 1) (ai : Option Addr) (ci : Nat) (w : World) (hle : x.le 1048576) (hat : LksAt w ai x.ls) :
    Calls Tryd.prog 15 #[.agg #[.int .i64 1, .int .i64 x.ep, .string x.fn, .string x.ft, .string x.km.nm, .string x.km.tl, .string x.km.ar, .slice ai x.ls.length ci, .int .i64 x.cd, .string x.tx]] w fun e w' => IsT (EntOk x) (entL x) e ∧ Below w.heap.size w w' := by
  obtain ⟨f1, f2, ⟨m1, m2, m3⟩, ⟨hl, hs⟩, f3⟩ := hle
  have hB0 : ∀ o, Below w.heap.size w (w.alloc o) := fun o => (Below.refl _ _).alloc (Nat.le_refl _) _
  go_enter Tryd.func15, Tryd.ntmps15
  go_wp2_with fail
  refine (c26 1 x.ep x.cd 0 x.ep 0 x.fn x.ft x.km.nm x.km.tl x.km.ar x.tx ⟨#[]⟩ ⟨#[]⟩ ⟨#[]⟩ ⟨#[]⟩ ⟨#[]⟩ ⟨#[]⟩ ai none x.ls.length 0 ci 0 _ hl (by omega)).mono ?_
  rintro e w1 ⟨⟨r, rfl, hr⟩, hb1⟩
  have HR : Hid (r = true ↔ x = eEpoch x.ep) := hr.trans (sm_1 hk)
  have hx1 : Below (w.heap.size + 1) (w.alloc (.cells #[.int .i64 1, .int .i64 x.ep, .string x.fn, .string x.ft, .string x.km.nm, .string x.km.tl, .string x.km.ar, .slice ai x.ls.length ci, .int .i64 x.cd, .string x.tx] 30)) w1 := by have h := hb1; simp at h; exact h
  have hB1 : Below w.heap.size w w1 := (hB0 _).trans (hx1.mono (by omega))
  have bA := (blk_new w [.int .i64 1, .int .i64 x.ep, .string x.fn, .string x.ft, .string x.km.nm, .string x.km.tl, .string x.km.ar, .slice ai x.ls.length ci, .int .i64 x.cd, .string x.tx] 30).below hx1 (by omega)
  have hz1 : w.heap.size < w1.heap.size := by have h := hx1.size; simp at h; omega
  clear hr hb1 hx1
  have k1 := bA 1 _ rfl
  cases r
  · have HN : Hid (IsT (EntOk x) (entL x) (.returned (.string ⟨#[]⟩))) := isT_no (fun h => absurd (HR.out.2 ((ok_1 hk).1 h).1) Bool.false_ne_true)
    go_wp2
    go_ret
    exact ⟨HN.out, hB1⟩
  · have HQ : Hid (x = eEpoch x.ep) := HR.out.1 rfl
    go_wp2_with fail
    refine (c27 x.ep 1 200 _).mono ?_
    rintro e w0 ⟨rfl, hw⟩
    obtain rfl := hw.symm
    cases h3 : decide (1 ≤ x.ep ∧ x.ep ≤ 200)
    · have HN : Hid (IsT (EntOk x) (entL x) (.returned (.string ⟨#[]⟩))) := isT_no (fun h => of_decide_eq_false h3 ((ok_1 hk).1 h).2)
      go_wp2
      go_ret
      exact ⟨HN.out, hB1⟩
    · have q3 := of_decide_eq_true h3
      have HOK : Hid (EntOk x) := (ok_1 hk).2 ⟨HQ.out, q3⟩
      have z0 := dec_small x.ep (by omega) (by omega)
      have z1 : (ofL (dec x.ep)).size ≤ 4 := by rw [ofL_size]; exact z0
      have k0 : ¬ 9223372036854775807 < 6 + (ofL (dec x.ep)).size := by omega
      have k2 : ¬ 9223372036854775807 < 6 + (ofL (dec x.ep)).size + 1 := by omega
      have k2' : ¬ 9223372036854775807 ≤ 6 + (ofL (dec x.ep)).size := by omega
      have k3 : ¬ (16000 : Int) < 6 + ((ofL (dec x.ep)).size : Int) + 1 := by omega
      have HE : Hid ((⟨#[101, 112, 111, 99, 104, 32]⟩ : ByteArray) ++ ofL (dec x.ep) ++ ⟨#[10]⟩ = ofL (entL x)) := by show _ = _; rw [ent_1, ← HQ.out]
      clear h3
      go_wp2_with fail
      refine (c24 (x.ep.toNat + 1) x.ep _ (by omega) (by omega) (Nat.lt_succ_self _)).mono ?_
      rintro e w4 ⟨rfl, hb4⟩
      have HB4 : Hid (Below w.heap.size w w4) := hB1.trans (hb4.mono hB1.size)
      clear hb4
      go_wp2
      go_ret
      exact ⟨⟨_, rfl, .inl ⟨HOK.out, HE.out⟩⟩, HB4.out⟩
set_option maxHeartbeats 16000000 in
set_option maxRecDepth 100000 in
theorem c15_3 (x : N10) (hk : x.kd = 3) (ai : Option Addr) (ci : Nat) (w : World) (hle : x.le 1048576) (hat : LksAt w ai x.ls) :
    Calls Tryd.prog 15 #[.agg #[.int .i64 3, .int .i64 x.ep, .string x.fn, .string x.ft, .string x.km.nm, .string x.km.tl, .string x.km.ar, .slice ai x.ls.length ci, .int .i64 x.cd, .string x.tx]] w fun e w' => IsT (EntOk x) (entL x) e ∧ Below w.heap.size w w' := by
  obtain ⟨f1, f2, ⟨m1, m2, m3⟩, ⟨hl, hs⟩, f3⟩ := hle
  have hB0 : ∀ o, Below w.heap.size w (w.alloc o) := fun o => (Below.refl _ _).alloc (Nat.le_refl _) _
  go_enter Tryd.func15, Tryd.ntmps15
  go_wp2_with fail
  refine (c26 3 x.ep x.cd 0 0 0 x.fn x.ft x.km.nm x.km.tl x.km.ar x.tx x.fn ⟨#[]⟩ ⟨#[]⟩ ⟨#[]⟩ ⟨#[]⟩ ⟨#[]⟩ ai none x.ls.length 0 ci 0 _ hl (by omega)).mono ?_
  rintro e w1 ⟨⟨r, rfl, hr⟩, hb1⟩
  have HR : Hid (r = true ↔ x = eDrop x.fn) := hr.trans (sm_3 hk)
  have hx1 : Below (w.heap.size + 1) (w.alloc (.cells #[.int .i64 3, .int .i64 x.ep, .string x.fn, .string x.ft, .string x.km.nm, .string x.km.tl, .string x.km.ar, .slice ai x.ls.length ci, .int .i64 x.cd, .string x.tx] 30)) w1 := by have h := hb1; simp at h; exact h
  have hB1 : Below w.heap.size w w1 := (hB0 _).trans (hx1.mono (by omega))
  have bA := (blk_new w [.int .i64 3, .int .i64 x.ep, .string x.fn, .string x.ft, .string x.km.nm, .string x.km.tl, .string x.km.ar, .slice ai x.ls.length ci, .int .i64 x.cd, .string x.tx] 30).below hx1 (by omega)
  have hz1 : w.heap.size < w1.heap.size := by have h := hx1.size; simp at h; omega
  clear hr hb1 hx1
  have k1 := bA 2 _ rfl
  cases r
  · have HN : Hid (IsT (EntOk x) (entL x) (.returned (.string ⟨#[]⟩))) := isT_no (fun h => absurd (HR.out.2 ((ok_3 hk).1 h).1) Bool.false_ne_true)
    go_wp2
    go_ret
    exact ⟨HN.out, hB1⟩
  · have HQ : Hid (x = eDrop x.fn) := HR.out.1 rfl
    go_wp2_with fail
    refine (c30 x.fn _ (by omega)).mono ?_
    rintro e w0 ⟨rfl, hw⟩
    obtain rfl := hw.symm
    cases h3 : nameOk x.fn.data.toList
    · have HN : Hid (IsT (EntOk x) (entL x) (.returned (.string ⟨#[]⟩))) := isT_no (fun h => by have h1 := ((ok_3 hk).1 h).2; rw [h3] at h1; cases h1)
      go_wp2
      go_ret
      exact ⟨HN.out, hB1⟩
    · have HOK : Hid (EntOk x) := (ok_3 hk).2 ⟨HQ.out, h3⟩
      have z0 := (name_len h3).2
      have z1 : x.fn.size ≤ 20 := by simpa using z0
      have k0 : ¬ 9223372036854775807 < 5 + x.fn.size := by omega
      have k2 : ¬ 9223372036854775807 < 5 + x.fn.size + 1 := by omega
      have k2' : ¬ 9223372036854775807 ≤ 5 + x.fn.size := by omega
      have k3 : ¬ (16000 : Int) < 5 + (x.fn.size : Int) + 1 := by omega
      have HE : Hid ((⟨#[100, 114, 111, 112, 32]⟩ : ByteArray) ++ x.fn ++ ⟨#[10]⟩ = ofL (entL x)) := by show _ = _; rw [ent_3, ← HQ.out]
      clear h3
      go_wp2
      go_ret
      exact ⟨⟨_, rfl, .inl ⟨HOK.out, HE.out⟩⟩, hB1⟩
set_option maxHeartbeats 16000000 in
set_option maxRecDepth 100000 in
theorem c15_5 (x : N10) (hk : x.kd = 5) (ai : Option Addr) (ci : Nat) (w : World) (hle : x.le 1048576) (hat : LksAt w ai x.ls) :
    Calls Tryd.prog 15 #[.agg #[.int .i64 5, .int .i64 x.ep, .string x.fn, .string x.ft, .string x.km.nm, .string x.km.tl, .string x.km.ar, .slice ai x.ls.length ci, .int .i64 x.cd, .string x.tx]] w fun e w' => IsT (EntOk x) (entL x) e ∧ Below w.heap.size w w' := by
  obtain ⟨f1, f2, ⟨m1, m2, m3⟩, ⟨hl, hs⟩, f3⟩ := hle
  have hB0 : ∀ o, Below w.heap.size w (w.alloc o) := fun o => (Below.refl _ _).alloc (Nat.le_refl _) _
  go_enter Tryd.func15, Tryd.ntmps15
  go_wp2_with fail
  refine (c26 5 x.ep x.cd 0 0 0 x.fn x.ft x.km.nm x.km.tl x.km.ar x.tx ⟨#[]⟩ ⟨#[]⟩ ⟨#[]⟩ ⟨#[]⟩ ⟨#[]⟩ ⟨#[]⟩ ai none x.ls.length 0 ci 0 _ hl (by omega)).mono ?_
  rintro e w1 ⟨⟨r, rfl, hr⟩, hb1⟩
  have HR : Hid (r = true ↔ x = eClear) := hr.trans (sm_5 hk)
  have hx1 : Below (w.heap.size + 1) (w.alloc (.cells #[.int .i64 5, .int .i64 x.ep, .string x.fn, .string x.ft, .string x.km.nm, .string x.km.tl, .string x.km.ar, .slice ai x.ls.length ci, .int .i64 x.cd, .string x.tx] 30)) w1 := by have h := hb1; simp at h; exact h
  have hB1 : Below w.heap.size w w1 := (hB0 _).trans (hx1.mono (by omega))
  have bA := (blk_new w [.int .i64 5, .int .i64 x.ep, .string x.fn, .string x.ft, .string x.km.nm, .string x.km.tl, .string x.km.ar, .slice ai x.ls.length ci, .int .i64 x.cd, .string x.tx] 30).below hx1 (by omega)
  have hz1 : w.heap.size < w1.heap.size := by have h := hx1.size; simp at h; omega
  clear hr hb1 hx1
  cases r
  · have HN : Hid (IsT (EntOk x) (entL x) (.returned (.string ⟨#[]⟩))) := isT_no (fun h => absurd (HR.out.2 ((ok_5 hk).1 h)) Bool.false_ne_true)
    go_wp2
    go_ret
    exact ⟨HN.out, hB1⟩
  · have HQ : Hid (x = eClear) := HR.out.1 rfl
    have HOK : Hid (EntOk x) := (ok_5 hk).2 HQ.out
    have HE : Hid ((⟨#[99, 108, 101, 97, 114, 10]⟩ : ByteArray) = ofL (entL x)) := by show _ = _; rw [ent_5, ← HQ.out]
    go_wp2
    go_ret
    exact ⟨⟨_, rfl, .inl ⟨HOK.out, HE.out⟩⟩, hB1⟩
set_option maxHeartbeats 16000000 in
set_option maxRecDepth 100000 in
theorem c15_no (x : N10) (ai : Option Addr) (ci : Nat) (w : World) (h1 : ¬ x.kd = 1) (h2 : ¬ x.kd = 2) (h3 : ¬ x.kd = 3) (h4 : ¬ x.kd = 4) (h5 : ¬ x.kd = 5) :
    Calls Tryd.prog 15 #[.agg #[.int .i64 x.kd, .int .i64 x.ep, .string x.fn, .string x.ft, .string x.km.nm, .string x.km.tl, .string x.km.ar, .slice ai x.ls.length ci, .int .i64 x.cd, .string x.tx]] w fun e w' => IsT (EntOk x) (entL x) e ∧ Below w.heap.size w w' := by
  have hB0 : ∀ o, Below w.heap.size w (w.alloc o) := fun o => (Below.refl _ _).alloc (Nat.le_refl _) _
  have HN : Hid (IsT (EntOk x) (entL x) (.returned (.string ⟨#[]⟩))) := isT_no (fun h => by rcases kd_cases h with h | h | h | h | h <;> contradiction)
  go_enter Tryd.func15, Tryd.ntmps15
  go_wp2
  go_ret
  exact ⟨HN.out, hB0 _⟩
end Go.Proofs.YtejlfpolnddfdaaDoor
namespace Go.Proofs.YtejlfpolnddfdaaDoor
open Go.RowKit
set_option linter.unusedVariables false
set_option maxHeartbeats 16000000 in
set_option maxRecDepth 100000 in
theorem c15_2 (x : N10) (hk : x.kd = 2) (ai : Option Addr) (ci : Nat) (w : World) (hle : x.le 1048576) (hat : LksAt w ai x.ls) :
    Calls Tryd.prog 15 #[.agg #[.int .i64 2, .int .i64 x.ep, .string x.fn, .string x.ft, .string x.km.nm, .string x.km.tl, .string x.km.ar, .slice ai x.ls.length ci, .int .i64 x.cd, .string x.tx]] w fun e w' => IsT (EntOk x) (entL x) e ∧ Below w.heap.size w w' := by
  obtain ⟨f1, f2, ⟨m1, m2, m3⟩, ⟨hl, hs⟩, f3⟩ := hle
  have hB0 : ∀ o, Below w.heap.size w (w.alloc o) := fun o => (Below.refl _ _).alloc (Nat.le_refl _) _
  go_enter Tryd.func15, Tryd.ntmps15
  go_wp2_with fail
  refine (c26 2 x.ep x.cd 0 0 0 x.fn x.ft x.km.nm x.km.tl x.km.ar x.tx x.fn x.ft ⟨#[]⟩ ⟨#[]⟩ ⟨#[]⟩ ⟨#[]⟩ ai none x.ls.length 0 ci 0 _ hl (by omega)).mono ?_
  rintro e w9 ⟨⟨r, rfl, hr⟩, hb1⟩
  have HR : Hid (r = true ↔ x = eFile x.fn x.ft) := hr.trans (sm_2 hk)
  have hx1 : Below (w.heap.size + 1) (w.alloc (.cells #[.int .i64 2, .int .i64 x.ep, .string x.fn, .string x.ft, .string x.km.nm, .string x.km.tl, .string x.km.ar, .slice ai x.ls.length ci, .int .i64 x.cd, .string x.tx] 30)) w9 := by have h := hb1; simp at h; exact h
  have hB9 : Below w.heap.size w w9 := (hB0 _).trans (hx1.mono (by omega))
  have bA := (blk_new w [.int .i64 2, .int .i64 x.ep, .string x.fn, .string x.ft, .string x.km.nm, .string x.km.tl, .string x.km.ar, .slice ai x.ls.length ci, .int .i64 x.cd, .string x.tx] 30).below hx1 (by omega)
  have hz9 : w.heap.size < w9.heap.size := by have h := hx1.size; simp at h; omega
  clear hr hb1 hx1
  have n1 := bA 2 _ rfl
  have n2 := bA 3 _ rfl
  cases r
  · have HN : Hid (IsT (EntOk x) (entL x) (.returned (.string ⟨#[]⟩))) := isT_no (fun h => absurd (HR.out.2 ((ok_2 hk).1 h).1) Bool.false_ne_true)
    go_wp2
    go_ret
    exact ⟨HN.out, hB9⟩
  · have HQ : Hid (x = eFile x.fn x.ft) := HR.out.1 rfl
    go_wp2_with fail
    refine (c28 x.fn x.ft _ (by omega) (by omega)).mono ?_
    rintro e w1 ⟨⟨r2, rfl, hr2⟩, hb9⟩
    have HR2 : Hid (r2 = true ↔ (nameOk x.fn.data.toList = true ∧ x.ft.size ≤ 300)) := hr2
    have hB1 : Below w.heap.size w w1 := hB9.trans (hb9.mono hB9.size)
    have k1 := (hb9.cell (p := ⟨w.heap.size, 2, none⟩) (by exact hz9)).trans n1
    have k2 := (hb9.cell (p := ⟨w.heap.size, 3, none⟩) (by exact hz9)).trans n2
    have hz1 : w.heap.size < w1.heap.size := Nat.lt_of_lt_of_le hz9 hb9.size
    clear hr2 hb9 n1 n2 hz9 bA hB9 hat
    cases r2
    · have HN : Hid (IsT (EntOk x) (entL x) (.returned (.string ⟨#[]⟩))) := isT_no (fun h => absurd (HR2.out.2 ((ok_2 hk).1 h).2) Bool.false_ne_true)
      go_wp2
      go_ret
      exact ⟨HN.out, hB1⟩
    · have q3 := HR2.out.1 rfl
      have HOK : Hid (EntOk x) := (ok_2 hk).2 ⟨HQ.out, q3⟩
      have z0 := (name_len q3.1).2
      have z1 : x.fn.size ≤ 20 := by simpa using z0
      have z2 := quote_size x.ft
      have z3 := q3.2
      have HE : Hid ((⟨#[102, 105, 108, 101, 32]⟩ : ByteArray) ++ x.fn ++ ⟨#[32]⟩ ++ ofL (quoteL x.ft.data.toList) ++ ⟨#[10]⟩ = ofL (entL x)) := by show _ = _; rw [ent_2, ← HQ.out]
      have g0 : ¬ 9223372036854775807 < 5 + x.fn.size := by omega
      have g1' : ¬ 9223372036854775807 ≤ 5 + x.fn.size := by omega
      have g1 : ¬ 9223372036854775807 < 5 + x.fn.size + 1 := by omega
      have g2 : ¬ 9223372036854775807 < 5 + x.fn.size + 1 + (ofL (quoteL x.ft.data.toList)).size := by omega
      have g3' : ¬ 9223372036854775807 ≤ 5 + x.fn.size + 1 + (ofL (quoteL x.ft.data.toList)).size := by omega
      have g3 : ¬ 9223372036854775807 < 5 + x.fn.size + 1 + (ofL (quoteL x.ft.data.toList)).size + 1 := by omega
      have g9 : ¬ (16000 : Int) < 5 + (x.fn.size : Int) + 1 + ((ofL (quoteL x.ft.data.toList)).size : Int) + 1 := by omega
      clear q3 z0
      go_wp2_with fail
      refine wp_region_held_drew (S := (fun u => u.cell? ⟨w.heap.size, 2, none⟩ = some (.string x.fn) ∧ u.cell? ⟨w.heap.size, 3, none⟩ = some (.string x.ft))) (by kernel_rfl) ?_ (fun hHeld => ?_)
      · ((try dsimp only); go_keep)
      refine wpAnyH_take (i := 0) (oi := { dst := some 35, op := Op.fieldAddr 30 (Operand.tmp 1) 2, type := 0, pos := "l6_log.go:36", after := #[], guard := none }) (v := ?_) rfl (by kernel_rfl) (by kernel_rfl) (by kernel_rfl) (fun _ _ _ h => h) (Or.inl ⟨by rfl, ?_⟩) (by assumption) ?_
      rotate_left
      · intro wq hSw
        (try dsimp only at hSw)
        go_simp
        try with_reducible rfl
      try simp only [Act.put, List.setIfInBounds_toArray, List.set_cons_zero, List.set_cons_succ]
      refine wpAnyH_take (i := 1) (oi := { dst := some 36, op := Op.fieldAddr 23 (Operand.tmp 35) 0, type := 0, pos := "l6_log.go:36", after := #[{ on := 0, ground := Ground.data }], guard := none }) (v := ?_) rfl (by kernel_rfl) (by kernel_rfl) (by kernel_rfl) (fun _ _ _ h => h) (Or.inl ⟨by rfl, ?_⟩) (by assumption) ?_
      rotate_left
      · intro wq hSw
        (try dsimp only at hSw)
        go_simp
        try with_reducible rfl
      try simp only [Act.put, List.setIfInBounds_toArray, List.set_cons_zero, List.set_cons_succ]
      refine wpAnyH_take (i := 2) (oi := { dst := some 37, op := Op.load 9 (Operand.tmp 36), type := 9, pos := "l6_log.go:36", after := #[{ on := 1, ground := Ground.data }], guard := none }) (v := ?_) rfl (by kernel_rfl) (by kernel_rfl) (by kernel_rfl) (fun _ _ _ h => h) (Or.inl ⟨by rfl, ?_⟩) (by assumption) ?_
      rotate_left
      · intro wq hSw
        (try dsimp only at hSw)
        go_simp
        try with_reducible rfl
      try simp only [Act.put, List.setIfInBounds_toArray, List.set_cons_zero, List.set_cons_succ]
      refine wpAnyH_take (i := 3) (oi := { dst := some 38, op := Op.binOp BinOp.add 9 (Operand.const (Value.string { data := #[102, 105, 108, 101, 32] })) (Operand.tmp 37) 9, type := 9, pos := "l6_log.go:36", after := #[{ on := 2, ground := Ground.data }], guard := none }) (v := ?_) rfl (by kernel_rfl) (by kernel_rfl) (by kernel_rfl) (fun _ _ _ h => h) (Or.inl ⟨by rfl, ?_⟩) (by assumption) ?_
      rotate_left
      · intro wq hSw
        (try dsimp only at hSw)
        go_simp
        try with_reducible rfl
      try simp only [Act.put, List.setIfInBounds_toArray, List.set_cons_zero, List.set_cons_succ]
      refine wpAnyH_take (i := 4) (oi := { dst := some 39, op := Op.binOp BinOp.add 9 (Operand.tmp 38) (Operand.const (Value.string { data := #[32] })) 9, type := 9, pos := "l6_log.go:36", after := #[{ on := 3, ground := Ground.data }], guard := none }) (v := ?_) rfl (by kernel_rfl) (by kernel_rfl) (by kernel_rfl) (fun _ _ _ h => h) (Or.inl ⟨by rfl, ?_⟩) (by assumption) ?_
      rotate_left
      · intro wq hSw
        (try dsimp only at hSw)
        go_simp
        try with_reducible rfl
      try simp only [Act.put, List.setIfInBounds_toArray, List.set_cons_zero, List.set_cons_succ]
      refine wpAnyH_take (i := 5) (oi := { dst := some 40, op := Op.fieldAddr 30 (Operand.tmp 1) 2, type := 0, pos := "l6_log.go:36", after := #[], guard := none }) (v := ?_) rfl (by kernel_rfl) (by kernel_rfl) (by kernel_rfl) (fun _ _ _ h => h) (Or.inl ⟨by rfl, ?_⟩) (by assumption) ?_
      rotate_left
      · intro wq hSw
        (try dsimp only at hSw)
        go_simp
        try with_reducible rfl
      try simp only [Act.put, List.setIfInBounds_toArray, List.set_cons_zero, List.set_cons_succ]
      refine wpAnyH_take (i := 6) (oi := { dst := some 41, op := Op.fieldAddr 23 (Operand.tmp 40) 1, type := 0, pos := "l6_log.go:36", after := #[{ on := 5, ground := Ground.data }], guard := none }) (v := ?_) rfl (by kernel_rfl) (by kernel_rfl) (by kernel_rfl) (fun _ _ _ h => h) (Or.inl ⟨by rfl, ?_⟩) (by assumption) ?_
      rotate_left
      · intro wq hSw
        (try dsimp only at hSw)
        go_simp
        try with_reducible rfl
      try simp only [Act.put, List.setIfInBounds_toArray, List.set_cons_zero, List.set_cons_succ]
      refine wpAnyH_take (i := 7) (oi := { dst := some 42, op := Op.load 9 (Operand.tmp 41), type := 9, pos := "l6_log.go:36", after := #[{ on := 6, ground := Ground.data }], guard := none }) (v := ?_) rfl (by kernel_rfl) (by kernel_rfl) (by kernel_rfl) (fun _ _ _ h => h) (Or.inl ⟨by rfl, ?_⟩) (by assumption) ?_
      rotate_left
      · intro wq hSw
        (try dsimp only at hSw)
        go_simp
        try with_reducible rfl
      try simp only [Act.put, List.setIfInBounds_toArray, List.set_cons_zero, List.set_cons_succ]
      refine wpAnyH_ready (rs := [8]) (by kernel_rfl) (by simp) ?_
      refine AllReadyH.cons (o := { dst := some 43, op := Op.call { callee := Callee.value (Operand.func 29), args := #[Operand.tmp 42], argTypes := #[9] }, type := 9, pos := "l6_log.go:36", after := #[{ on := 7, ground := Ground.data }], guard := none }) rfl (fun K hK => ?_) AllReadyH.nil
      go_simp
      refine (c29' x.ft _ (by omega)).mono ?_
      rintro e w2 ⟨rfl, hb2⟩
      have HB2 : Hid (Below w1.heap.size w1 w2) := ((Below.refl _ _).drew).trans hb2
      have d2 := (HB2.out.cell (p := ⟨w.heap.size, 2, none⟩) (by exact hz1)).trans k1
      have d3 := (HB2.out.cell (p := ⟨w.heap.size, 3, none⟩) (by exact hz1)).trans k2
      clear hb2
      go_wp2_with fail
      clear hHeld
      refine hK.out _ _ ?_ (fun hHeld => ?_)
      · ((try dsimp only); go_keep)
      clear hK K
      try simp only [Act.put, List.setIfInBounds_toArray, List.set_cons_zero, List.set_cons_succ]
      refine wpAnyH_take (i := 9) (oi := { dst := some 44, op := Op.binOp BinOp.add 9 (Operand.tmp 39) (Operand.tmp 43) 9, type := 9, pos := "l6_log.go:36", after := #[{ on := 4, ground := Ground.data }, { on := 8, ground := Ground.data }], guard := none }) (v := ?_) rfl (by kernel_rfl) (by kernel_rfl) (by kernel_rfl) (fun _ _ _ h => h) (Or.inl ⟨by rfl, ?_⟩) (by assumption) ?_
      rotate_left
      · intro wq hSw
        (try dsimp only at hSw)
        go_simp
        try with_reducible rfl
      try simp only [Act.put, List.setIfInBounds_toArray, List.set_cons_zero, List.set_cons_succ]
      refine wpAnyH_take (i := 10) (oi := { dst := some 45, op := Op.binOp BinOp.add 9 (Operand.tmp 44) (Operand.const (Value.string { data := #[10] })) 9, type := 9, pos := "l6_log.go:36", after := #[{ on := 9, ground := Ground.data }], guard := none }) (v := ?_) rfl (by kernel_rfl) (by kernel_rfl) (by kernel_rfl) (fun _ _ _ h => h) (Or.inl ⟨by rfl, ?_⟩) (by assumption) ?_
      rotate_left
      · intro wq hSw
        (try dsimp only at hSw)
        go_simp
        try with_reducible rfl
      try simp only [Act.put, List.setIfInBounds_toArray, List.set_cons_zero, List.set_cons_succ]
      refine wpAnyH_take (i := 11) (oi := { dst := some 3, op := Op.assign (Operand.tmp 45), type := 9, pos := "l6_log.go:36", after := #[{ on := 10, ground := Ground.data }, { on := 8, ground := Ground.chain }, { on := 0, ground := Ground.phase }, { on := 1, ground := Ground.phase }, { on := 2, ground := Ground.phase }, { on := 3, ground := Ground.phase }, { on := 4, ground := Ground.phase }, { on := 5, ground := Ground.phase }, { on := 6, ground := Ground.phase }, { on := 7, ground := Ground.phase }, { on := 8, ground := Ground.phase }, { on := 9, ground := Ground.phase }, { on := 10, ground := Ground.phase }], guard := none }) (v := ?_) rfl (by kernel_rfl) (by kernel_rfl) (by kernel_rfl) (fun _ _ _ h => h) (Or.inl ⟨by rfl, ?_⟩) (by assumption) ?_
      rotate_left
      · intro wq hSw
        (try dsimp only at hSw)
        go_simp
        try with_reducible rfl
      try simp only [Act.put, List.setIfInBounds_toArray, List.set_cons_zero, List.set_cons_succ]
      refine wpAnyH_done (by kernel_rfl) ?_ _
      have hB2 : Below w.heap.size w w2 := hB1.trans (HB2.out.mono hB1.size)
      clear hHeld
      go_wp2
      go_ret
      exact ⟨⟨_, rfl, .inl ⟨HOK.out, HE.out⟩⟩, hB2⟩
end Go.Proofs.YtejlfpolnddfdaaDoor
namespace Go.Proofs.YtejlfpolnddfdaaDoor
open Go.RowKit
set_option linter.unusedVariables false
set_option maxHeartbeats 16000000 in
set_option maxRecDepth 100000 in
theorem c15_4 (x : N10) (hk : x.kd = 4) (ai : Option Addr) (ci : Nat) (w : World) (hle : x.le 1048576) (hat : LksAt w ai x.ls) :
    Calls Tryd.prog 15 #[.agg #[.int .i64 4, .int .i64 x.ep, .string x.fn, .string x.ft, .string x.km.nm, .string x.km.tl, .string x.km.ar, .slice ai x.ls.length ci, .int .i64 x.cd, .string x.tx]] w fun e w' => IsT (EntOk x) (entL x) e ∧ Below w.heap.size w w' := by
  obtain ⟨f1, f2, ⟨m1, m2, m3⟩, ⟨hl, hs⟩, f3⟩ := hle
  have hB0 : ∀ o, Below w.heap.size w (w.alloc o) := fun o => (Below.refl _ _).alloc (Nat.le_refl _) _
  go_enter Tryd.func15, Tryd.ntmps15
  go_wp2_with fail
  refine (c26 4 x.ep x.cd 0 0 x.cd x.fn x.ft x.km.nm x.km.tl x.km.ar x.tx ⟨#[]⟩ ⟨#[]⟩ x.km.nm x.km.tl x.km.ar x.tx ai ai x.ls.length x.ls.length ci ci _ hl hl).mono ?_
  rintro e w9 ⟨⟨r, rfl, hr⟩, hb1⟩
  have HR : Hid (r = true ↔ x = eRan x.km x.ls x.cd x.tx) := hr.trans (sm_4 hk)
  have hx1 : Below (w.heap.size + 1) (w.alloc (.cells #[.int .i64 4, .int .i64 x.ep, .string x.fn, .string x.ft, .string x.km.nm, .string x.km.tl, .string x.km.ar, .slice ai x.ls.length ci, .int .i64 x.cd, .string x.tx] 30)) w9 := by have h := hb1; simp at h; exact h
  have hB9 : Below w.heap.size w w9 := (hB0 _).trans (hx1.mono (by omega))
  have bA := (blk_new w [.int .i64 4, .int .i64 x.ep, .string x.fn, .string x.ft, .string x.km.nm, .string x.km.tl, .string x.km.ar, .slice ai x.ls.length ci, .int .i64 x.cd, .string x.tx] 30).below hx1 (by omega)
  have hz9 : w.heap.size < w9.heap.size := by have h := hx1.size; simp at h; omega
  clear hr hb1 hx1
  have n4 := bA 4 _ rfl
  have n5 := bA 5 _ rfl
  have n6 := bA 6 _ rfl
  have n7 := bA 7 _ rfl
  have n8 := bA 8 _ rfl
  have n9 := bA 9 _ rfl
  cases r
  · have HN : Hid (IsT (EntOk x) (entL x) (.returned (.string ⟨#[]⟩))) := isT_no (fun h => absurd (HR.out.2 ((ok_4 hk).1 h).1) Bool.false_ne_true)
    go_wp2
    go_ret
    exact ⟨HN.out, hB9⟩
  · have HQ : Hid (x = eRan x.km x.ls x.cd x.tx) := HR.out.1 rfl
    go_wp2_with fail
    refine (c31 x.km x.ls x.cd x.tx ai ci _ ⟨m1, m2, m3⟩ hl hs f3 (lks_below hat hB9)).mono ?_
    rintro e w1 ⟨⟨r2, rfl, hr2⟩, hb9⟩
    have HR2 : Hid (r2 = true ↔ RanOk x.km x.ls x.cd x.tx) := hr2
    have hB1 : Below w.heap.size w w1 := hB9.trans (hb9.mono hB9.size)
    have k4 := (hb9.cell (p := ⟨w.heap.size, 4, none⟩) (by exact hz9)).trans n4
    have k5 := (hb9.cell (p := ⟨w.heap.size, 5, none⟩) (by exact hz9)).trans n5
    have k6 := (hb9.cell (p := ⟨w.heap.size, 6, none⟩) (by exact hz9)).trans n6
    have k7 := (hb9.cell (p := ⟨w.heap.size, 7, none⟩) (by exact hz9)).trans n7
    have k8 := (hb9.cell (p := ⟨w.heap.size, 8, none⟩) (by exact hz9)).trans n8
    have k9 := (hb9.cell (p := ⟨w.heap.size, 9, none⟩) (by exact hz9)).trans n9
    have hz1 : w.heap.size < w1.heap.size := Nat.lt_of_lt_of_le hz9 hb9.size
    have HAT : Hid (LksAt w ai x.ls) := hat
    have HS : Hid (∀ i, (x.ls.getD i l4z).le 1048576) := hs
    clear hr2 hb9 n4 n5 n6 n7 n8 n9 hz9 bA hB9 hat hs
    cases r2
    · have HN : Hid (IsT (EntOk x) (entL x) (.returned (.string ⟨#[]⟩))) := isT_no (fun h => absurd (HR2.out.2 ((ok_4 hk).1 h).2) Bool.false_ne_true)
      go_wp2
      go_ret
      exact ⟨HN.out, hB1⟩
    · have HRO : Hid (RanOk x.km x.ls x.cd x.tx) := HR2.out.1 rfl
      have HOK : Hid (EntOk x) := (ok_4 hk).2 ⟨HQ.out, HRO.out⟩
      obtain ⟨z0, z1, z2⟩ := okM_len HRO.out.1
      have y0 : x.km.nm.size ≤ 20 := by simpa using z0
      have y1 : x.km.tl.size ≤ 20 := by simpa using z1
      have y2 : x.km.ar.size ≤ 300 := by simpa using z2
      have y3 := quote_size x.km.ar
      have y4 : (ofL (looksL x.ls)).size ≤ 13950 := by rw [ofL_size]; exact looks_small HRO.out.2.1
      have HC : Hid (0 ≤ x.cd ∧ x.cd ≤ 7) := vr_code HRO.out.2.2
      have y5 : (ofL (resL x.cd x.tx)).size ≤ 904 := by rw [ofL_size]; exact res_len HC.out.1 HC.out.2 (vr_len HRO.out.2.2)
      have HE : Hid ((⟨#[114, 97, 110, 32]⟩ : ByteArray) ++ x.km.nm ++ ⟨#[32]⟩ ++ x.km.tl ++ ⟨#[32]⟩ ++ ofL (quoteL x.km.ar.data.toList) ++ ⟨#[10]⟩ ++ ofL (looksL x.ls) ++ ⟨#[103, 97, 118, 101, 32]⟩ ++ ofL (resL x.cd x.tx) ++ ⟨#[10]⟩ = ofL (entL x)) := by show _ = _; rw [ent_4, ← HQ.out]
      have g0 : ¬ 9223372036854775807 < 4 + x.km.nm.size := by omega
      have g1' : ¬ 9223372036854775807 ≤ 4 + x.km.nm.size := by omega
      have g1 : ¬ 9223372036854775807 < 4 + x.km.nm.size + 1 := by omega
      have g2 : ¬ 9223372036854775807 < 4 + x.km.nm.size + 1 + x.km.tl.size := by omega
      have g3' : ¬ 9223372036854775807 ≤ 4 + x.km.nm.size + 1 + x.km.tl.size := by omega
      have g3 : ¬ 9223372036854775807 < 4 + x.km.nm.size + 1 + x.km.tl.size + 1 := by omega
      have g4 : ¬ 9223372036854775807 < 4 + x.km.nm.size + 1 + x.km.tl.size + 1 + (ofL (quoteL x.km.ar.data.toList)).size := by omega
      have g5' : ¬ 9223372036854775807 ≤ 4 + x.km.nm.size + 1 + x.km.tl.size + 1 + (ofL (quoteL x.km.ar.data.toList)).size := by omega
      have g5 : ¬ 9223372036854775807 < 4 + x.km.nm.size + 1 + x.km.tl.size + 1 + (ofL (quoteL x.km.ar.data.toList)).size + 1 := by omega
      have g6 : ¬ 9223372036854775807 < 4 + x.km.nm.size + 1 + x.km.tl.size + 1 + (ofL (quoteL x.km.ar.data.toList)).size + 1 + (ofL (looksL x.ls)).size := by omega
      have g7 : ¬ 9223372036854775807 < 4 + x.km.nm.size + 1 + x.km.tl.size + 1 + (ofL (quoteL x.km.ar.data.toList)).size + 1 + (ofL (looksL x.ls)).size + 5 := by omega
      have g8 : ¬ 9223372036854775807 < 4 + x.km.nm.size + 1 + x.km.tl.size + 1 + (ofL (quoteL x.km.ar.data.toList)).size + 1 + (ofL (looksL x.ls)).size + 5 + (ofL (resL x.cd x.tx)).size := by omega
      have g9' : ¬ 9223372036854775807 ≤ 4 + x.km.nm.size + 1 + x.km.tl.size + 1 + (ofL (quoteL x.km.ar.data.toList)).size + 1 + (ofL (looksL x.ls)).size + 5 + (ofL (resL x.cd x.tx)).size := by omega
      have g9 : ¬ 9223372036854775807 < 4 + x.km.nm.size + 1 + x.km.tl.size + 1 + (ofL (quoteL x.km.ar.data.toList)).size + 1 + (ofL (looksL x.ls)).size + 5 + (ofL (resL x.cd x.tx)).size + 1 := by omega
      have h9 : ¬ (16000 : Int) < 4 + (x.km.nm.size : Int) + 1 + (x.km.tl.size : Int) + 1 + ((ofL (quoteL x.km.ar.data.toList)).size : Int) + 1 + ((ofL (looksL x.ls)).size : Int) + 5 + ((ofL (resL x.cd x.tx)).size : Int) + 1 := by omega
      clear z0 z1 z2
      go_wp2_with fail
      refine wp_region_held_drew (S := (fun u => u.cell? ⟨w.heap.size, 4, none⟩ = some (.string x.km.nm) ∧ u.cell? ⟨w.heap.size, 5, none⟩ = some (.string x.km.tl) ∧ u.cell? ⟨w.heap.size, 6, none⟩ = some (.string x.km.ar) ∧ u.cell? ⟨w.heap.size, 7, none⟩ = some (.slice ai x.ls.length ci) ∧ u.cell? ⟨w.heap.size, 8, none⟩ = some (.int .i64 x.cd) ∧ u.cell? ⟨w.heap.size, 9, none⟩ = some (.string x.tx))) (by kernel_rfl) ?_ (fun hHeld => ?_)
      · ((try dsimp only); go_keep)
      refine wpAnyH_take (i := 0) (oi := { dst := some 86, op := Op.fieldAddr 30 (Operand.tmp 1) 3, type := 0, pos := "l6_log.go:44", after := #[], guard := none }) (v := ?_) rfl (by kernel_rfl) (by kernel_rfl) (by kernel_rfl) (fun _ _ _ h => h) (Or.inl ⟨by rfl, ?_⟩) (by assumption) ?_
      rotate_left
      · intro wq hSw
        (try dsimp only at hSw)
        go_simp
        try with_reducible rfl
      try simp only [Act.put, List.setIfInBounds_toArray, List.set_cons_zero, List.set_cons_succ]
      refine wpAnyH_take (i := 1) (oi := { dst := some 87, op := Op.fieldAddr 25 (Operand.tmp 86) 0, type := 0, pos := "l6_log.go:44", after := #[{ on := 0, ground := Ground.data }], guard := none }) (v := ?_) rfl (by kernel_rfl) (by kernel_rfl) (by kernel_rfl) (fun _ _ _ h => h) (Or.inl ⟨by rfl, ?_⟩) (by assumption) ?_
      rotate_left
      · intro wq hSw
        (try dsimp only at hSw)
        go_simp
        try with_reducible rfl
      try simp only [Act.put, List.setIfInBounds_toArray, List.set_cons_zero, List.set_cons_succ]
      refine wpAnyH_take (i := 2) (oi := { dst := some 88, op := Op.load 9 (Operand.tmp 87), type := 9, pos := "l6_log.go:44", after := #[{ on := 1, ground := Ground.data }], guard := none }) (v := ?_) rfl (by kernel_rfl) (by kernel_rfl) (by kernel_rfl) (fun _ _ _ h => h) (Or.inl ⟨by rfl, ?_⟩) (by assumption) ?_
      rotate_left
      · intro wq hSw
        (try dsimp only at hSw)
        go_simp
        try with_reducible rfl
      try simp only [Act.put, List.setIfInBounds_toArray, List.set_cons_zero, List.set_cons_succ]
      refine wpAnyH_take (i := 3) (oi := { dst := some 89, op := Op.binOp BinOp.add 9 (Operand.const (Value.string { data := #[114, 97, 110, 32] })) (Operand.tmp 88) 9, type := 9, pos := "l6_log.go:44", after := #[{ on := 2, ground := Ground.data }], guard := none }) (v := ?_) rfl (by kernel_rfl) (by kernel_rfl) (by kernel_rfl) (fun _ _ _ h => h) (Or.inl ⟨by rfl, ?_⟩) (by assumption) ?_
      rotate_left
      · intro wq hSw
        (try dsimp only at hSw)
        go_simp
        try with_reducible rfl
      try simp only [Act.put, List.setIfInBounds_toArray, List.set_cons_zero, List.set_cons_succ]
      refine wpAnyH_take (i := 4) (oi := { dst := some 90, op := Op.binOp BinOp.add 9 (Operand.tmp 89) (Operand.const (Value.string { data := #[32] })) 9, type := 9, pos := "l6_log.go:44", after := #[{ on := 3, ground := Ground.data }], guard := none }) (v := ?_) rfl (by kernel_rfl) (by kernel_rfl) (by kernel_rfl) (fun _ _ _ h => h) (Or.inl ⟨by rfl, ?_⟩) (by assumption) ?_
      rotate_left
      · intro wq hSw
        (try dsimp only at hSw)
        go_simp
        try with_reducible rfl
      try simp only [Act.put, List.setIfInBounds_toArray, List.set_cons_zero, List.set_cons_succ]
      refine wpAnyH_take (i := 5) (oi := { dst := some 91, op := Op.fieldAddr 30 (Operand.tmp 1) 3, type := 0, pos := "l6_log.go:44", after := #[], guard := none }) (v := ?_) rfl (by kernel_rfl) (by kernel_rfl) (by kernel_rfl) (fun _ _ _ h => h) (Or.inl ⟨by rfl, ?_⟩) (by assumption) ?_
      rotate_left
      · intro wq hSw
        (try dsimp only at hSw)
        go_simp
        try with_reducible rfl
      try simp only [Act.put, List.setIfInBounds_toArray, List.set_cons_zero, List.set_cons_succ]
      refine wpAnyH_take (i := 6) (oi := { dst := some 92, op := Op.fieldAddr 25 (Operand.tmp 91) 1, type := 0, pos := "l6_log.go:44", after := #[{ on := 5, ground := Ground.data }], guard := none }) (v := ?_) rfl (by kernel_rfl) (by kernel_rfl) (by kernel_rfl) (fun _ _ _ h => h) (Or.inl ⟨by rfl, ?_⟩) (by assumption) ?_
      rotate_left
      · intro wq hSw
        (try dsimp only at hSw)
        go_simp
        try with_reducible rfl
      try simp only [Act.put, List.setIfInBounds_toArray, List.set_cons_zero, List.set_cons_succ]
      refine wpAnyH_take (i := 7) (oi := { dst := some 93, op := Op.load 9 (Operand.tmp 92), type := 9, pos := "l6_log.go:44", after := #[{ on := 6, ground := Ground.data }], guard := none }) (v := ?_) rfl (by kernel_rfl) (by kernel_rfl) (by kernel_rfl) (fun _ _ _ h => h) (Or.inl ⟨by rfl, ?_⟩) (by assumption) ?_
      rotate_left
      · intro wq hSw
        (try dsimp only at hSw)
        go_simp
        try with_reducible rfl
      try simp only [Act.put, List.setIfInBounds_toArray, List.set_cons_zero, List.set_cons_succ]
      refine wpAnyH_take (i := 8) (oi := { dst := some 94, op := Op.binOp BinOp.add 9 (Operand.tmp 90) (Operand.tmp 93) 9, type := 9, pos := "l6_log.go:44", after := #[{ on := 4, ground := Ground.data }, { on := 7, ground := Ground.data }], guard := none }) (v := ?_) rfl (by kernel_rfl) (by kernel_rfl) (by kernel_rfl) (fun _ _ _ h => h) (Or.inl ⟨by rfl, ?_⟩) (by assumption) ?_
      rotate_left
      · intro wq hSw
        (try dsimp only at hSw)
        go_simp
        try with_reducible rfl
      try simp only [Act.put, List.setIfInBounds_toArray, List.set_cons_zero, List.set_cons_succ]
      refine wpAnyH_take (i := 9) (oi := { dst := some 95, op := Op.binOp BinOp.add 9 (Operand.tmp 94) (Operand.const (Value.string { data := #[32] })) 9, type := 9, pos := "l6_log.go:44", after := #[{ on := 8, ground := Ground.data }], guard := none }) (v := ?_) rfl (by kernel_rfl) (by kernel_rfl) (by kernel_rfl) (fun _ _ _ h => h) (Or.inl ⟨by rfl, ?_⟩) (by assumption) ?_
      rotate_left
      · intro wq hSw
        (try dsimp only at hSw)
        go_simp
        try with_reducible rfl
      try simp only [Act.put, List.setIfInBounds_toArray, List.set_cons_zero, List.set_cons_succ]
      refine wpAnyH_take (i := 10) (oi := { dst := some 96, op := Op.fieldAddr 30 (Operand.tmp 1) 3, type := 0, pos := "l6_log.go:44", after := #[], guard := none }) (v := ?_) rfl (by kernel_rfl) (by kernel_rfl) (by kernel_rfl) (fun _ _ _ h => h) (Or.inl ⟨by rfl, ?_⟩) (by assumption) ?_
      rotate_left
      · intro wq hSw
        (try dsimp only at hSw)
        go_simp
        try with_reducible rfl
      try simp only [Act.put, List.setIfInBounds_toArray, List.set_cons_zero, List.set_cons_succ]
      refine wpAnyH_take (i := 11) (oi := { dst := some 97, op := Op.fieldAddr 25 (Operand.tmp 96) 2, type := 0, pos := "l6_log.go:44", after := #[{ on := 10, ground := Ground.data }], guard := none }) (v := ?_) rfl (by kernel_rfl) (by kernel_rfl) (by kernel_rfl) (fun _ _ _ h => h) (Or.inl ⟨by rfl, ?_⟩) (by assumption) ?_
      rotate_left
      · intro wq hSw
        (try dsimp only at hSw)
        go_simp
        try with_reducible rfl
      try simp only [Act.put, List.setIfInBounds_toArray, List.set_cons_zero, List.set_cons_succ]
      refine wpAnyH_take (i := 12) (oi := { dst := some 98, op := Op.load 9 (Operand.tmp 97), type := 9, pos := "l6_log.go:44", after := #[{ on := 11, ground := Ground.data }], guard := none }) (v := ?_) rfl (by kernel_rfl) (by kernel_rfl) (by kernel_rfl) (fun _ _ _ h => h) (Or.inl ⟨by rfl, ?_⟩) (by assumption) ?_
      rotate_left
      · intro wq hSw
        (try dsimp only at hSw)
        go_simp
        try with_reducible rfl
      try simp only [Act.put, List.setIfInBounds_toArray, List.set_cons_zero, List.set_cons_succ]
      refine wpAnyH_take (i := 16) (oi := { dst := some 102, op := Op.fieldAddr 30 (Operand.tmp 1) 4, type := 0, pos := "l6_log.go:44", after := #[], guard := none }) (v := ?_) rfl (by kernel_rfl) (by kernel_rfl) (by kernel_rfl) (fun _ _ _ h => h) (Or.inl ⟨by rfl, ?_⟩) (by assumption) ?_
      rotate_left
      · intro wq hSw
        (try dsimp only at hSw)
        go_simp
        try with_reducible rfl
      try simp only [Act.put, List.setIfInBounds_toArray, List.set_cons_zero, List.set_cons_succ]
      refine wpAnyH_take (i := 17) (oi := { dst := some 103, op := Op.load 26 (Operand.tmp 102), type := 26, pos := "l6_log.go:44", after := #[{ on := 16, ground := Ground.data }], guard := none }) (v := ?_) rfl (by kernel_rfl) (by kernel_rfl) (by kernel_rfl) (fun _ _ _ h => h) (Or.inl ⟨by rfl, ?_⟩) (by assumption) ?_
      rotate_left
      · intro wq hSw
        (try dsimp only at hSw)
        go_simp
        try with_reducible rfl
      try simp only [Act.put, List.setIfInBounds_toArray, List.set_cons_zero, List.set_cons_succ]
      refine wpAnyH_take (i := 21) (oi := { dst := some 107, op := Op.fieldAddr 30 (Operand.tmp 1) 5, type := 0, pos := "l6_log.go:44", after := #[], guard := none }) (v := ?_) rfl (by kernel_rfl) (by kernel_rfl) (by kernel_rfl) (fun _ _ _ h => h) (Or.inl ⟨by rfl, ?_⟩) (by assumption) ?_
      rotate_left
      · intro wq hSw
        (try dsimp only at hSw)
        go_simp
        try with_reducible rfl
      try simp only [Act.put, List.setIfInBounds_toArray, List.set_cons_zero, List.set_cons_succ]
      refine wpAnyH_take (i := 22) (oi := { dst := some 108, op := Op.load 28 (Operand.tmp 107), type := 28, pos := "l6_log.go:44", after := #[{ on := 21, ground := Ground.data }], guard := none }) (v := ?_) rfl (by kernel_rfl) (by kernel_rfl) (by kernel_rfl) (fun _ _ _ h => h) (Or.inl ⟨by rfl, ?_⟩) (by assumption) ?_
      rotate_left
      · intro wq hSw
        (try dsimp only at hSw)
        go_simp
        try with_reducible rfl
      try simp only [Act.put, List.setIfInBounds_toArray, List.set_cons_zero, List.set_cons_succ]
      refine wpAnyH_ready (rs := [13]) (by kernel_rfl) (by simp) ?_
      refine AllReadyH.cons (o := { dst := some 99, op := Op.call { callee := Callee.value (Operand.func 29), args := #[Operand.tmp 98], argTypes := #[9] }, type := 9, pos := "l6_log.go:44", after := #[{ on := 12, ground := Ground.data }], guard := none }) rfl (fun K hK => ?_) AllReadyH.nil
      go_simp
      refine (c29' x.km.ar _ (by omega)).mono ?_
      rintro e w2 ⟨rfl, hb2⟩
      have HB2 : Hid (Below w1.heap.size w1 w2) := ((Below.refl _ _).drew).trans hb2
      have p4 := (HB2.out.cell (p := ⟨w.heap.size, 4, none⟩) (by exact hz1)).trans k4
      have p5 := (HB2.out.cell (p := ⟨w.heap.size, 5, none⟩) (by exact hz1)).trans k5
      have p6 := (HB2.out.cell (p := ⟨w.heap.size, 6, none⟩) (by exact hz1)).trans k6
      have p7 := (HB2.out.cell (p := ⟨w.heap.size, 7, none⟩) (by exact hz1)).trans k7
      have p8 := (HB2.out.cell (p := ⟨w.heap.size, 8, none⟩) (by exact hz1)).trans k8
      have p9 := (HB2.out.cell (p := ⟨w.heap.size, 9, none⟩) (by exact hz1)).trans k9
      have hz2 : w.heap.size < w2.heap.size := Nat.lt_of_lt_of_le hz1 HB2.out.size
      clear hb2
      go_wp2_with fail
      clear hHeld
      refine hK.out _ _ ?_ (fun hHeld => ?_)
      · ((try dsimp only); go_keep)
      clear hK K
      try simp only [Act.put, List.setIfInBounds_toArray, List.set_cons_zero, List.set_cons_succ]
      refine wpAnyH_take (i := 14) (oi := { dst := some 100, op := Op.binOp BinOp.add 9 (Operand.tmp 95) (Operand.tmp 99) 9, type := 9, pos := "l6_log.go:44", after := #[{ on := 9, ground := Ground.data }, { on := 13, ground := Ground.data }], guard := none }) (v := ?_) rfl (by kernel_rfl) (by kernel_rfl) (by kernel_rfl) (fun _ _ _ h => h) (Or.inl ⟨by rfl, ?_⟩) (by assumption) ?_
      rotate_left
      · intro wq hSw
        (try dsimp only at hSw)
        go_simp
        try with_reducible rfl
      try simp only [Act.put, List.setIfInBounds_toArray, List.set_cons_zero, List.set_cons_succ]
      refine wpAnyH_take (i := 15) (oi := { dst := some 101, op := Op.binOp BinOp.add 9 (Operand.tmp 100) (Operand.const (Value.string { data := #[10] })) 9, type := 9, pos := "l6_log.go:44", after := #[{ on := 14, ground := Ground.data }], guard := none }) (v := ?_) rfl (by kernel_rfl) (by kernel_rfl) (by kernel_rfl) (fun _ _ _ h => h) (Or.inl ⟨by rfl, ?_⟩) (by assumption) ?_
      rotate_left
      · intro wq hSw
        (try dsimp only at hSw)
        go_simp
        try with_reducible rfl
      try simp only [Act.put, List.setIfInBounds_toArray, List.set_cons_zero, List.set_cons_succ]
      refine wpAnyH_ready (rs := [18]) (by kernel_rfl) (by simp) ?_
      refine AllReadyH.cons (o := { dst := some 104, op := Op.call { callee := Callee.value (Operand.func 32), args := #[Operand.tmp 103], argTypes := #[26] }, type := 9, pos := "l6_log.go:44", after := #[{ on := 17, ground := Ground.data }, { on := 13, ground := Ground.chain }], guard := none }) rfl (fun K hK => ?_) AllReadyH.nil
      go_simp
      refine (c32 ai ci x.ls _ HRO.out.2.1 HS.out (lks_below HAT.out (hB1.trans (HB2.out.mono hB1.size)))).mono ?_
      rintro e w3 ⟨rfl, hb3⟩
      have HB3 : Hid (Below w2.heap.size w2 w3) := hb3
      have q4 := (HB3.out.cell (p := ⟨w.heap.size, 4, none⟩) (by exact hz2)).trans p4
      have q5 := (HB3.out.cell (p := ⟨w.heap.size, 5, none⟩) (by exact hz2)).trans p5
      have q6 := (HB3.out.cell (p := ⟨w.heap.size, 6, none⟩) (by exact hz2)).trans p6
      have q7 := (HB3.out.cell (p := ⟨w.heap.size, 7, none⟩) (by exact hz2)).trans p7
      have q8 := (HB3.out.cell (p := ⟨w.heap.size, 8, none⟩) (by exact hz2)).trans p8
      have q9 := (HB3.out.cell (p := ⟨w.heap.size, 9, none⟩) (by exact hz2)).trans p9
      have hz3 : w.heap.size < w3.heap.size := Nat.lt_of_lt_of_le hz2 HB3.out.size
      clear hb3
      go_wp2_with fail
      clear hHeld
      refine hK.out _ _ ?_ (fun hHeld => ?_)
      · ((try dsimp only); go_keep)
      clear hK K
      try simp only [Act.put, List.setIfInBounds_toArray, List.set_cons_zero, List.set_cons_succ]
      refine wpAnyH_take (i := 19) (oi := { dst := some 105, op := Op.binOp BinOp.add 9 (Operand.tmp 101) (Operand.tmp 104) 9, type := 9, pos := "l6_log.go:44", after := #[{ on := 15, ground := Ground.data }, { on := 18, ground := Ground.data }], guard := none }) (v := ?_) rfl (by kernel_rfl) (by kernel_rfl) (by kernel_rfl) (fun _ _ _ h => h) (Or.inl ⟨by rfl, ?_⟩) (by assumption) ?_
      rotate_left
      · intro wq hSw
        (try dsimp only at hSw)
        go_simp
        try with_reducible rfl
      try simp only [Act.put, List.setIfInBounds_toArray, List.set_cons_zero, List.set_cons_succ]
      refine wpAnyH_take (i := 20) (oi := { dst := some 106, op := Op.binOp BinOp.add 9 (Operand.tmp 105) (Operand.const (Value.string { data := #[103, 97, 118, 101, 32] })) 9, type := 9, pos := "l6_log.go:44", after := #[{ on := 19, ground := Ground.data }], guard := none }) (v := ?_) rfl (by kernel_rfl) (by kernel_rfl) (by kernel_rfl) (fun _ _ _ h => h) (Or.inl ⟨by rfl, ?_⟩) (by assumption) ?_
      rotate_left
      · intro wq hSw
        (try dsimp only at hSw)
        go_simp
        try with_reducible rfl
      try simp only [Act.put, List.setIfInBounds_toArray, List.set_cons_zero, List.set_cons_succ]
      refine wpAnyH_ready (rs := [23]) (by kernel_rfl) (by simp) ?_
      refine AllReadyH.cons (o := { dst := some 109, op := Op.call { callee := Callee.value (Operand.func 33), args := #[Operand.tmp 108], argTypes := #[28] }, type := 9, pos := "l6_log.go:44", after := #[{ on := 22, ground := Ground.data }, { on := 18, ground := Ground.chain }], guard := none }) rfl (fun K hK => ?_) AllReadyH.nil
      go_simp
      refine (c33 x.cd x.tx _ HC.out.1 (by have := HC.out.2; omega) (by omega)).mono ?_
      rintro e w4 ⟨rfl, hb4⟩
      have HB4 : Hid (Below w3.heap.size w3 w4) := hb4
      have r4 := (HB4.out.cell (p := ⟨w.heap.size, 4, none⟩) (by exact hz3)).trans q4
      have r5 := (HB4.out.cell (p := ⟨w.heap.size, 5, none⟩) (by exact hz3)).trans q5
      have r6 := (HB4.out.cell (p := ⟨w.heap.size, 6, none⟩) (by exact hz3)).trans q6
      have r7 := (HB4.out.cell (p := ⟨w.heap.size, 7, none⟩) (by exact hz3)).trans q7
      have r8 := (HB4.out.cell (p := ⟨w.heap.size, 8, none⟩) (by exact hz3)).trans q8
      have r9 := (HB4.out.cell (p := ⟨w.heap.size, 9, none⟩) (by exact hz3)).trans q9
      clear hb4
      go_wp2_with fail
      clear hHeld
      refine hK.out _ _ ?_ (fun hHeld => ?_)
      · ((try dsimp only); go_keep)
      clear hK K
      try simp only [Act.put, List.setIfInBounds_toArray, List.set_cons_zero, List.set_cons_succ]
      refine wpAnyH_take (i := 24) (oi := { dst := some 110, op := Op.binOp BinOp.add 9 (Operand.tmp 106) (Operand.tmp 109) 9, type := 9, pos := "l6_log.go:44", after := #[{ on := 20, ground := Ground.data }, { on := 23, ground := Ground.data }], guard := none }) (v := ?_) rfl (by kernel_rfl) (by kernel_rfl) (by kernel_rfl) (fun _ _ _ h => h) (Or.inl ⟨by rfl, ?_⟩) (by assumption) ?_
      rotate_left
      · intro wq hSw
        (try dsimp only at hSw)
        go_simp
        try with_reducible rfl
      try simp only [Act.put, List.setIfInBounds_toArray, List.set_cons_zero, List.set_cons_succ]
      refine wpAnyH_take (i := 25) (oi := { dst := some 111, op := Op.binOp BinOp.add 9 (Operand.tmp 110) (Operand.const (Value.string { data := #[10] })) 9, type := 9, pos := "l6_log.go:44", after := #[{ on := 24, ground := Ground.data }], guard := none }) (v := ?_) rfl (by kernel_rfl) (by kernel_rfl) (by kernel_rfl) (fun _ _ _ h => h) (Or.inl ⟨by rfl, ?_⟩) (by assumption) ?_
      rotate_left
      · intro wq hSw
        (try dsimp only at hSw)
        go_simp
        try with_reducible rfl
      try simp only [Act.put, List.setIfInBounds_toArray, List.set_cons_zero, List.set_cons_succ]
      refine wpAnyH_take (i := 26) (oi := { dst := some 3, op := Op.assign (Operand.tmp 111), type := 9, pos := "l6_log.go:44", after := #[{ on := 25, ground := Ground.data }, { on := 23, ground := Ground.chain }, { on := 0, ground := Ground.phase }, { on := 1, ground := Ground.phase }, { on := 2, ground := Ground.phase }, { on := 3, ground := Ground.phase }, { on := 4, ground := Ground.phase }, { on := 5, ground := Ground.phase }, { on := 6, ground := Ground.phase }, { on := 7, ground := Ground.phase }, { on := 8, ground := Ground.phase }, { on := 9, ground := Ground.phase }, { on := 10, ground := Ground.phase }, { on := 11, ground := Ground.phase }, { on := 12, ground := Ground.phase }, { on := 13, ground := Ground.phase }, { on := 14, ground := Ground.phase }, { on := 15, ground := Ground.phase }, { on := 16, ground := Ground.phase }, { on := 17, ground := Ground.phase }, { on := 18, ground := Ground.phase }, { on := 19, ground := Ground.phase }, { on := 20, ground := Ground.phase }, { on := 21, ground := Ground.phase }, { on := 22, ground := Ground.phase }, { on := 23, ground := Ground.phase }, { on := 24, ground := Ground.phase }, { on := 25, ground := Ground.phase }], guard := none }) (v := ?_) rfl (by kernel_rfl) (by kernel_rfl) (by kernel_rfl) (fun _ _ _ h => h) (Or.inl ⟨by rfl, ?_⟩) (by assumption) ?_
      rotate_left
      · intro wq hSw
        (try dsimp only at hSw)
        go_simp
        try with_reducible rfl
      try simp only [Act.put, List.setIfInBounds_toArray, List.set_cons_zero, List.set_cons_succ]
      refine wpAnyH_done (by kernel_rfl) ?_ _
      have hB2 : Below w.heap.size w w4 := ((hB1.trans (HB2.out.mono hB1.size)).trans (HB3.out.mono (Nat.le_of_lt hz2))).trans (HB4.out.mono (Nat.le_of_lt hz3))
      clear hHeld
      go_wp2
      go_ret
      exact ⟨⟨_, rfl, .inl ⟨HOK.out, HE.out⟩⟩, hB2⟩
end Go.Proofs.YtejlfpolnddfdaaDoor
