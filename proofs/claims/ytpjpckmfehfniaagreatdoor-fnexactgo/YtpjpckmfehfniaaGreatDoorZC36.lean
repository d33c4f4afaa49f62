import Derived.Test.YtpjpckmfehfniaaGreatDoorZC35
import Derived.Test.YtpjpckmfehfniaaGreatDoorZC32
import Derived.Test.YtpjpckmfehfniaaGreatDoorZC33
namespace Go.Proofs.YtpjpckmfehfniaaGreatDoor.M
open Go.RowKit
/-- A turn. -/
structure T6 where
  over : Bool
  cd : Int
  tx : ByteArray
  has : Bool
  nm : ByteArray
  st : Int
def t6z : T6 := ⟨false, 0, ⟨#[]⟩, false, ⟨#[]⟩, 0⟩
def T6.le (x : T6) (B : Nat) : Prop := x.tx.size ≤ B ∧ x.nm.size ≤ B
/-- A message. -/
structure G16 where
  kd : Int
  to : Int
  fr : Int
  ep : Int
  ed : Int
  km : M3
  ls : List L4
  ct : Int
  tn : T6
def g16z : G16 := ⟨0, 0, 0, 0, 0, m3z, [], 0, t6z⟩
def G16.le (x : G16) (B : Nat) : Prop := x.km.le B ∧ (x.ls.length ≤ B ∧ ∀ i, (x.ls.getD i l4z).le B) ∧ x.tn.le B
/-- A worker. -/
structure W19 where
  no : Int
  up : Bool
  has : Bool
  of : G16
set_option maxHeartbeats 1000000 in
theorem c93 (x : T6) (l : Int) (w : World) (hs : x.le 9223372036854775807) (h0 : 0 ≤ l) (h1 : l ≤ 1048576) :
    Calls Tryz.prog 93 #[.agg #[.bool x.over, .int .i64 x.cd, .string x.tx, .bool x.has, .string x.nm, .int .i64 x.st], .int .i64 l] w fun e w' => (∃ r : Int, e = .returned (.int .i64 r) ∧ (0 ≤ r → x.le 1048576 ∧ r ≤ 1048576)) ∧ Below w.heap.size w w' := by
  obtain ⟨s1, s2⟩ := hs
  have hB0 : ∀ o, Below w.heap.size w (w.alloc o) := fun o => (Below.refl _ _).alloc (Nat.le_refl _) _
  go_enter Tryz.func93, Tryz.ntmps93
  go_wp2_with fail
  refine (c72 x.cd x.tx l _ s1 h0 h1).mono ?_
  rintro e w1 ⟨⟨r, rfl, hr⟩, hb1⟩
  have hB1 : Below w.heap.size w w1 := (hB0 _).trans (hb1.mono (by simp))
  have k4 : w1.cell? ⟨w.heap.size, 4, none⟩ = some (.string x.nm) := (hb1.cell (p := ⟨w.heap.size, 4, none⟩) (by simp)).trans (by simp [go_sem])
  clear hb1
  by_cases hn : 0 ≤ r
  · obtain ⟨hx, hr'⟩ := hr hn
    clear hr
    by_cases h2 : r < x.nm.size
    · go_wp2
      go_ret
      exact ⟨⟨-1, rfl, fun h => by omega⟩, hB1⟩
    · go_wp2
      go_ret
      exact ⟨⟨_, rfl, fun h => ⟨⟨hx, by omega⟩, by omega⟩⟩, hB1⟩
  · clear hr
    go_wp2
    go_ret
    exact ⟨⟨-1, rfl, fun h => by omega⟩, hB1⟩
set_option maxHeartbeats 1000000 in
theorem c44 (x : G16) (ai : Option Addr) (ci : Nat) (l : Int) (w : World) (hs : x.le 9223372036854775807) (h0 : 0 ≤ l) (h1 : l ≤ 1048576) (hat : LksAt w ai x.ls) :
    Calls Tryz.prog 44 #[.agg #[.int .i64 x.kd, .int .i64 x.to, .int .i64 x.fr, .int .i64 x.ep, .int .i64 x.ed, .string x.km.nm, .string x.km.tl, .string x.km.ar, .slice ai x.ls.length ci, .int .i64 x.ct, .bool x.tn.over, .int .i64 x.tn.cd, .string x.tn.tx, .bool x.tn.has, .string x.tn.nm, .int .i64 x.tn.st], .int .i64 l] w fun e w' => (∃ r : Int, e = .returned (.int .i64 r) ∧ (0 ≤ r → x.le 1048576 ∧ r ≤ 1048576)) ∧ Below w.heap.size w w' := by
  obtain ⟨s1, ⟨s2, s3⟩, s4⟩ := hs
  have HA : Hid (LksAt w ai x.ls) := hat
  have hB0 : ∀ o, Below w.heap.size w (w.alloc o) := fun o => (Below.refl _ _).alloc (Nat.le_refl _) _
  clear hat
  go_enter Tryz.func44, Tryz.ntmps44
  go_wp2_with fail
  refine (c6 x.km l _ s1 h0 h1).mono ?_
  rintro e w1 ⟨⟨r, rfl, hr⟩, hb1⟩
  have hx1 : Below (w.heap.size + 1) (w.alloc (.cells #[.int .i64 x.kd, .int .i64 x.to, .int .i64 x.fr, .int .i64 x.ep, .int .i64 x.ed, .string x.km.nm, .string x.km.tl, .string x.km.ar, .slice ai x.ls.length ci, .int .i64 x.ct, .bool x.tn.over, .int .i64 x.tn.cd, .string x.tn.tx, .bool x.tn.has, .string x.tn.nm, .int .i64 x.tn.st] 43)) w1 := by have h := hb1; simp at h; exact h
  have hB1 : Below w.heap.size w w1 := (hB0 _).trans (hx1.mono (by omega))
  have hz1 : w.heap.size < w1.heap.size := by have := hx1.size; simp at this; omega
  have Z := (blk_new w [.int .i64 x.kd, .int .i64 x.to, .int .i64 x.fr, .int .i64 x.ep, .int .i64 x.ed, .string x.km.nm, .string x.km.tl, .string x.km.ar, .slice ai x.ls.length ci, .int .i64 x.ct, .bool x.tn.over, .int .i64 x.tn.cd, .string x.tn.tx, .bool x.tn.has, .string x.tn.nm, .int .i64 x.tn.st] 43).below hx1 (Nat.lt_succ_self _)
  clear hb1 hx1
  by_cases hn : 0 ≤ r
  · obtain ⟨hx, hr'⟩ := hr hn
    have k8 := Z 8 _ rfl
    clear hr
    go_wp2_with fail
    refine (c7 ai ci x.ls r w1 hn hr' s3 s2 (lks_below HA.out hB1)).mono ?_
    rintro e w2 ⟨⟨r2, rfl, hr2⟩, hb2⟩
    have hB2 : Below w.heap.size w w2 := hB1.trans (hb2.mono hB1.size)
    have Z2 := Z.below hb2 hz1
    clear hb2 k8 Z
    by_cases hn2 : 0 ≤ r2
    · obtain ⟨hx2, hx3, hr2'⟩ := hr2 hn2
      have k10 := Z2 10 _ rfl
      have k11 := Z2 11 _ rfl
      have k12 := Z2 12 _ rfl
      have k13 := Z2 13 _ rfl
      have k14 := Z2 14 _ rfl
      have k15 := Z2 15 _ rfl
      clear hr2 Z2
      go_wp2_with fail
      refine (c93 x.tn r2 w2 s4 hn2 hr2').mono ?_
      rintro e w3 ⟨⟨r3, rfl, hr3⟩, hb3⟩
      have hB3 : Below w.heap.size w w3 := hB2.trans (hb3.mono hB2.size)
      by_cases hn3 : 0 ≤ r3
      · obtain ⟨hx4, hr3'⟩ := hr3 hn3
        clear hr3
        go_wp2
        go_ret
        exact ⟨⟨_, rfl, fun h => ⟨⟨hx, ⟨hx2, hx3⟩, hx4⟩, hr3'⟩⟩, hB3⟩
      · clear hr3
        go_wp2
        go_ret
        exact ⟨⟨-1, rfl, fun h => by omega⟩, hB3⟩
    · clear hr2
      go_wp2
      go_ret
      exact ⟨⟨-1, rfl, fun h => by omega⟩, hB2⟩
  · clear hr
    go_wp2
    go_ret
    exact ⟨⟨-1, rfl, fun h => by omega⟩, hB1⟩
set_option maxHeartbeats 1000000 in
theorem c14 (x : W19) (ai : Option Addr) (ci : Nat) (l : Int) (w : World) (hs : x.of.le 9223372036854775807) (h0 : 0 ≤ l) (h1 : l ≤ 1048576) (hat : LksAt w ai x.of.ls) :
    Calls Tryz.prog 14 #[.agg #[.int .i64 x.no, .bool x.up, .bool x.has, .int .i64 x.of.kd, .int .i64 x.of.to, .int .i64 x.of.fr, .int .i64 x.of.ep, .int .i64 x.of.ed, .string x.of.km.nm, .string x.of.km.tl, .string x.of.km.ar, .slice ai x.of.ls.length ci, .int .i64 x.of.ct, .bool x.of.tn.over, .int .i64 x.of.tn.cd, .string x.of.tn.tx, .bool x.of.tn.has, .string x.of.tn.nm, .int .i64 x.of.tn.st], .int .i64 l] w fun e w' => (∃ r : Int, e = .returned (.int .i64 r) ∧ (0 ≤ r → x.of.le 1048576 ∧ r ≤ 1048576)) ∧ Below w.heap.size w w' := by
  have HA : Hid (LksAt w ai x.of.ls) := hat
  have hB0 : ∀ o, Below w.heap.size w (w.alloc o) := fun o => (Below.refl _ _).alloc (Nat.le_refl _) _
  clear hat
  go_enter Tryz.func14, Tryz.ntmps14
  go_wp2_with fail
  refine (c44 x.of ai ci l _ hs h0 h1 (lks_below HA.out (hB0 _))).mono ?_
  rintro e w1 ⟨⟨r, rfl, hr⟩, hb1⟩
  have hB1 : Below w.heap.size w w1 := (hB0 _).trans (hb1.mono (by simp))
  clear hb1
  by_cases hn : 0 ≤ r
  · have hr' := hr hn
    clear hr
    go_wp2
    go_ret
    exact ⟨⟨_, rfl, fun h => hr'⟩, hB1⟩
  · clear hr
    go_wp2
    go_ret
    exact ⟨⟨-1, rfl, fun h => by omega⟩, hB1⟩
end Go.Proofs.YtpjpckmfehfniaaGreatDoor.M
namespace Go.Proofs.YtpjpckmfehfniaaGreatDoor.M
open Go.RowKit
set_option maxHeartbeats 400000 in
theorem c69 (n : Int) (w : World) :
    Calls Tryz.prog 69 #[.int .i64 n] w fun e w' => e = .returned (.bool (decide (1 ≤ n ∧ n ≤ 4))) ∧ w' = w := by
  by_cases h1 : 1 ≤ n <;> by_cases h2 : n ≤ 4
  all_goals
    go_enter Tryz.func69, Tryz.ntmps69
    go_wp2
    all_goals go_ret
    all_goals exact ⟨by simp [*], rfl⟩
set_option maxHeartbeats 400000 in
theorem c204 (n : Int) (w : World) :
    Calls Tryz.prog 204 #[.int .i64 n] w fun e w' => e = .returned (.bool (decide (1 ≤ n ∧ n ≤ 200))) ∧ w' = w := by
  by_cases h1 : 1 ≤ n <;> by_cases h2 : n ≤ 200
  all_goals
    go_enter Tryz.func204, Tryz.ntmps204
    go_wp2
    all_goals go_ret
    all_goals exact ⟨by simp [*], rfl⟩
/-- An epoch and a count of edits. -/
def momOk (a b : Int) : Bool := decide (1 ≤ a ∧ a ≤ 200) && decide (0 ≤ b ∧ b ≤ 1000)
set_option maxHeartbeats 400000 in
theorem c176 (a b : Int) (w : World) :
    Calls Tryz.prog 176 #[.int .i64 a, .int .i64 b] w fun e w' => e = .returned (.bool (momOk a b)) ∧ w' = w := by
  have HM : Hid (momOk a b = (decide (1 ≤ a ∧ a ≤ 200) && decide (0 ≤ b ∧ b ≤ 1000))) := rfl
  cases h : decide (1 ≤ a ∧ a ≤ 200)
  · have HF : Hid (momOk a b = false) := by rw [HM.out, h]; rfl
    go_enter Tryz.func176, Tryz.ntmps176
    go_wp2_with fail
    refine (c204 a w).mono ?_
    rintro e w1 ⟨rfl, hw⟩
    obtain rfl := hw.symm
    rw [h]
    go_wp2
    go_ret
    exact ⟨by rw [HF.out]; rfl, rfl⟩
  · have HF : Hid (momOk a b = decide (0 ≤ b ∧ b ≤ 1000)) := by rw [HM.out, h]; rfl
    by_cases h1 : 0 ≤ b <;> by_cases h2 : b ≤ 1000
    all_goals
      go_enter Tryz.func176, Tryz.ntmps176
      go_wp2_with fail
      refine (c204 a w).mono ?_
      rintro e w1 ⟨rfl, hw⟩
      obtain rfl := hw.symm
      rw [h]
      go_wp2
      all_goals go_ret
      all_goals exact ⟨by rw [HF.out]; simp [*], rfl⟩
/-- A look is valid. -/
def LkOk (x : L4) : Prop := nameOk x.nm.data.toList = true ∧ ((x.has = true ∧ ((x.cd = 0 ∧ x.tx = ⟨#[]⟩) ∨ (x.cd = 4 ∧ x.tx = x.nm))) ∨ (x.has = false ∧ vr x.cd x.tx.data.toList = true))
def IsB (P : Prop) (e : Ending) : Prop := ∃ r, e = .returned (.bool r) ∧ (r = true ↔ P)
theorem isB_no {P : Prop} (h : ¬ P) : IsB P (.returned (.bool false)) := ⟨false, rfl, ⟨fun h => absurd h Bool.false_ne_true, fun k => absurd k h⟩⟩
theorem isB_yes {P : Prop} (h : P) : IsB P (.returned (.bool true)) := ⟨true, rfl, ⟨fun _ => h, fun _ => rfl⟩⟩
theorem ba_iff (x y : ByteArray) : x.toList = y.toList ↔ x = y := ⟨fun h => by
  rw [ByteArray.toList_eq, ByteArray.toList_eq] at h
  exact ByteArray.ext (Array.toList_inj.1 h), fun h => by rw [h]⟩
theorem ba_nil (x : ByteArray) : x.toList = [] ↔ x = ⟨#[]⟩ := by
  rw [ByteArray.toList_eq]
  exact ⟨fun h => ByteArray.ext (Array.toList_inj.1 h), fun h => by rw [h]⟩
theorem lk_name {x : L4} (h : nameOk x.nm.data.toList = false) : ¬ LkOk x := fun k => absurd (k.1.symm.trans h) (by decide)
theorem lk_ask {x : L4} (hn : nameOk x.nm.data.toList = true) (hh : x.has = false) : LkOk x ↔ vr x.cd x.tx.data.toList = true := by
  constructor
  · rintro ⟨_, ⟨h, _⟩ | ⟨_, h⟩⟩
    · rw [hh] at h; cases h
    · exact h
  · exact fun h => ⟨hn, .inr ⟨hh, h⟩⟩
theorem lk_has {x : L4} (hn : nameOk x.nm.data.toList = true) (hh : x.has = true) : LkOk x ↔ ((x.cd = 0 ∧ x.tx.toList = []) ∨ (x.cd = 4 ∧ x.tx.toList = x.nm.toList)) := by
  rw [ba_nil, ba_iff]
  constructor
  · rintro ⟨_, ⟨_, h⟩ | ⟨h, _⟩⟩
    · exact h
    · rw [hh] at h; cases h
  · exact fun h => ⟨hn, .inl ⟨hh, h⟩⟩
end Go.Proofs.YtpjpckmfehfniaaGreatDoor.M
namespace Go.Proofs.YtpjpckmfehfniaaGreatDoor.M
open Go.RowKit
set_option maxHeartbeats 2000000 in
theorem c74 (x : L4) (w : World) (hs : x.le 1048600) :
    Calls Tryz.prog 74 #[.agg #[.bool x.has, .string x.nm, .int .i64 x.cd, .string x.tx]] w fun e w' => IsB (LkOk x) e ∧ Below w.heap.size w w' := by
  obtain ⟨s1, s2⟩ := hs
  have hB0 : ∀ o, Below w.heap.size w (w.alloc o) := fun o => (Below.refl _ _).alloc (Nat.le_refl _) _
  cases hn : nameOk x.nm.data.toList
  · have HN : Hid (IsB (LkOk x) (.returned (.bool false))) := isB_no (lk_name hn)
    go_enter Tryz.func74, Tryz.ntmps74
    go_wp2_with fail
    refine (c73 x.nm _ (by omega)).mono ?_
    rintro e w1 ⟨rfl, hw⟩
    obtain rfl := hw.symm
    rw [hn]
    go_wp2
    go_ret
    exact ⟨HN.out, hB0 _⟩
  · cases hh : x.has
    · have HE : Hid (LkOk x ↔ vr x.cd x.tx.data.toList = true) := lk_ask hn hh
      go_enter Tryz.func74, Tryz.ntmps74
      go_wp2_with fail
      refine (c73 x.nm _ (by omega)).mono ?_
      rintro e w1 ⟨rfl, hw⟩
      obtain rfl := hw.symm
      rw [hn]
      go_wp2_with fail
      refine (c76 x.cd x.tx _ (by omega)).mono ?_
      rintro e w2 ⟨rfl, hb2⟩
      have hB2 : Below w.heap.size w w2 := (hB0 _).trans (hb2.mono (by simp))
      go_wp2
      go_ret
      exact ⟨⟨_, rfl, HE.out.symm⟩, hB2⟩
    · have HE : Hid (LkOk x ↔ ((x.cd = 0 ∧ x.tx.toList = []) ∨ (x.cd = 4 ∧ x.tx.toList = x.nm.toList))) := lk_has hn hh
      skip
      all_goals
        go_enter Tryz.func74, Tryz.ntmps74
        go_wp2_with fail
        refine (c73 x.nm _ (by omega)).mono ?_
        rintro e w1 ⟨rfl, hw⟩
        obtain rfl := hw.symm
        rw [hn]
        go_wp2
        all_goals go_ret
        all_goals first
          | exact ⟨isB_yes (HE.out.2 (by simp [*])), hB0 _⟩
          | exact ⟨isB_no (fun h => by have := HE.out.1 h; simp [*] at this), hB0 _⟩
          | exact ⟨isB_yes (HE.out.2 (by simp [*])), (hB0 _).alloc (by simp) _⟩
          | exact ⟨isB_no (fun h => by have := HE.out.1 h; simp [*] at this), (hB0 _).alloc (by simp) _⟩
set_option maxHeartbeats 2000000 in
theorem c41 (x : L4) (w : World) (hs : x.le 1048600) :
    Calls Tryz.prog 41 #[.agg #[.bool x.has, .string x.nm, .int .i64 x.cd, .string x.tx]] w fun e w' => IsB (LkOk x) e ∧ Below w.heap.size w w' := by
  obtain ⟨s1, s2⟩ := hs
  have hB0 : ∀ o, Below w.heap.size w (w.alloc o) := fun o => (Below.refl _ _).alloc (Nat.le_refl _) _
  cases hh : x.has
  · cases hn : nameOk x.nm.data.toList
    · have HN : Hid (IsB (LkOk x) (.returned (.bool false))) := isB_no (lk_name hn)
      go_enter Tryz.func41, Tryz.ntmps41
      go_wp2_with fail
      refine (c87 x.nm _ (by omega)).mono ?_
      rintro e w1 ⟨rfl, hw⟩
      obtain rfl := hw.symm
      rw [hn]
      go_wp2
      go_ret
      exact ⟨HN.out, hB0 _⟩
    · have HE : Hid (LkOk x ↔ vr x.cd x.tx.data.toList = true) := lk_ask hn hh
      go_enter Tryz.func41, Tryz.ntmps41
      go_wp2_with fail
      refine (c87 x.nm _ (by omega)).mono ?_
      rintro e w1 ⟨rfl, hw⟩
      obtain rfl := hw.symm
      rw [hn]
      go_wp2_with fail
      refine (c92 x.cd x.tx _ (by omega)).mono ?_
      rintro e w2 ⟨rfl, hb2⟩
      have hB2 : Below w.heap.size w w2 := (hB0 _).trans (hb2.mono (by simp))
      go_wp2
      go_ret
      exact ⟨⟨_, rfl, HE.out.symm⟩, hB2⟩
  · cases hn : nameOk x.nm.data.toList
    · have HN : Hid (IsB (LkOk x) (.returned (.bool false))) := isB_no (lk_name hn)
      go_enter Tryz.func41, Tryz.ntmps41
      go_wp2_with fail
      refine (c87 x.nm _ (by omega)).mono ?_
      rintro e w1 ⟨rfl, hw⟩
      obtain rfl := hw.symm
      rw [hn]
      go_wp2
      go_ret
      exact ⟨HN.out, (hB0 _).alloc (by simp) _⟩
    · have HE : Hid (LkOk x ↔ ((x.cd = 0 ∧ x.tx.toList = []) ∨ (x.cd = 4 ∧ x.tx.toList = x.nm.toList))) := lk_has hn hh
      skip
      all_goals
        go_enter Tryz.func41, Tryz.ntmps41
        go_wp2_with fail
        refine (c87 x.nm _ (by omega)).mono ?_
        rintro e w1 ⟨rfl, hw⟩
        obtain rfl := hw.symm
        rw [hn]
        go_wp2
        all_goals go_ret
        all_goals first
          | exact ⟨isB_yes (HE.out.2 (by simp [*])), (hB0 _).alloc (by simp) _⟩
          | exact ⟨isB_no (fun h => by have := HE.out.1 h; simp [*] at this), (hB0 _).alloc (by simp) _⟩
          | exact ⟨isB_yes (HE.out.2 (by simp [*])), ((hB0 _).alloc (by simp) _).alloc (by simp; omega) _⟩
          | exact ⟨isB_no (fun h => by have := HE.out.1 h; simp [*] at this), ((hB0 _).alloc (by simp) _).alloc (by simp; omega) _⟩
end Go.Proofs.YtpjpckmfehfniaaGreatDoor.M
