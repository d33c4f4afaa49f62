import Derived.Test.YtpjpckmfehfniaaGreatDoorRA
import Derived.Test.YtpjpckmfehfniaaGreatDoorZC01
namespace Go.Proofs.YtpjpckmfehfniaaGreatDoor
open Go.RowKit

theorem name_short (s : ByteArray) (h : ¬ (1 ≤ s.size ∧ s.size ≤ 20)) : nameOk s.data.toList = false := by
  unfold nameOk
  have : (decide (1 ≤ s.data.toList.length ∧ s.data.toList.length ≤ 20)) = false := by
    simp only [decide_eq_false_iff_not]; simpa using h
  rw [this]; rfl
theorem name_long (s : ByteArray) (h : 1 ≤ s.size ∧ s.size ≤ 20) : nameOk s.data.toList = s.data.toList.all isGraph := by
  unfold nameOk
  have : (decide (1 ≤ s.data.toList.length ∧ s.data.toList.length ≤ 20)) = true := by
    simp only [decide_eq_true_eq]; simpa using h
  rw [this]; rfl

set_option maxHeartbeats 400000 in
theorem c87 (s : ByteArray) (w : World) (hs : s.size ≤ 1048700) :
    Calls Tryz.prog 87 #[.string s] w fun e w' => e = .returned (.bool (nameOk s.data.toList)) ∧ w' = w := by
  by_cases h : 1 ≤ s.size ∧ s.size ≤ 20
  · have hN : Hid (nameOk s.data.toList = s.data.toList.all isGraph) := name_long s h
    obtain ⟨h1, h2⟩ := h
    go_enter Tryz.func87, Tryz.ntmps87
    go_wp2
    go_loop [14] (fun i => ∃ k : Nat, k ≤ s.size ∧ i = .int .i64 k ∧ Hid ((s.data.toList.take k).all isGraph = true)) (fun i => s.size - (intOf i).toNat)
    case atStart => exact ⟨0, Nat.zero_le _, rfl, rfl⟩
    case round =>
      obtain ⟨k, hk, rfl, ha⟩ := hrel
      by_cases hlt : k < s.size
      · by_cases hg : isGraph s[k] = true
        · have hg' := (graph_iff _).1 hg
          have hn := Hid.out ha
          have ha' : Hid ((s.data.toList.take (k + 1)).all isGraph = true) := all_take_snoc _ s k hlt ha.out hg
          clear hg hn
          go_wp2
          go_round
          case rel => exact ⟨k + 1, by omega, by go_num, ha'⟩
          case measure => simp [intOf]; omega
        · have hf : Hid (s.data.toList.all isGraph = false) := all_false_at _ s k hlt (by simpa using hg)
          have hg' : (s[k].toNat : Int) < 33 ∨ 126 < (s[k].toNat : Int) := by
            rcases Int.lt_or_le (s[k].toNat : Int) 33 with h | h
            · exact .inl h
            · rcases Int.lt_or_le 126 (s[k].toNat : Int) with h' | h'
              · exact .inr h'
              · exact absurd ((graph_iff _).2 ⟨h, h'⟩) hg
          clear hg
          rcases hg' with hg | hg
          all_goals
            go_wp2
            all_goals go_ret
            all_goals exact ⟨ret_bool (by rw [hN.out, hf.out]), rfl⟩
      · go_wp2
        go_ret
        exact ⟨ret_bool (by rw [hN.out, all_take_size _ s k (by omega) ha.out]), rfl⟩
  · have hN : Hid (nameOk s.data.toList = false) := name_short s h
    by_cases h1 : 1 ≤ s.size
    all_goals
      go_enter Tryz.func87, Tryz.ntmps87
      go_wp2
      all_goals go_ret
      all_goals exact ⟨ret_bool (by rw [hN.out]), rfl⟩

set_option maxHeartbeats 400000 in
theorem c73 (s : ByteArray) (w : World) (hs : s.size ≤ 1048700) :
    Calls Tryz.prog 73 #[.string s] w fun e w' => e = .returned (.bool (nameOk s.data.toList)) ∧ w' = w := by
  by_cases h : 1 ≤ s.size ∧ s.size ≤ 20
  · have hN : Hid (nameOk s.data.toList = s.data.toList.all isGraph) := name_long s h
    have hd : decide ((1 : Int) ≤ (s.size : Int) ∧ (s.size : Int) ≤ 20) = true := by simp; omega
    go_enter Tryz.func73, Tryz.ntmps73
    go_wp2_with fail
    refine (c67 _ _ _ _).mono ?_
    rintro e w' ⟨rfl, rfl⟩
    rw [hd]
    go_wp2
    go_loop [3] (fun i => ∃ k : Nat, k ≤ s.size ∧ i = .int .i64 k ∧ Hid ((s.data.toList.take k).all isGraph = true)) (fun i => s.size - (intOf i).toNat)
    case atStart => exact ⟨0, Nat.zero_le _, rfl, rfl⟩
    case round =>
      obtain ⟨k, hk, rfl, ha⟩ := hrel
      by_cases hlt : k < s.size
      · by_cases hg : isGraph s[k] = true
        · have hg' := (graph_iff _).1 hg
          have ha' : Hid ((s.data.toList.take (k + 1)).all isGraph = true) := all_take_snoc _ s k hlt ha.out hg
          clear hg
          go_wp2
          go_round
          case rel => exact ⟨k + 1, by omega, by go_num, ha'⟩
          case measure => simp [intOf]; omega
        · have hf : Hid (s.data.toList.all isGraph = false) := all_false_at _ s k hlt (by simpa using hg)
          have hg' : (s[k].toNat : Int) < 33 ∨ 126 < (s[k].toNat : Int) := by
            rcases Int.lt_or_le (s[k].toNat : Int) 33 with h | h
            · exact .inl h
            · rcases Int.lt_or_le 126 (s[k].toNat : Int) with h' | h'
              · exact .inr h'
              · exact absurd ((graph_iff _).2 ⟨h, h'⟩) hg
          clear hg
          rcases hg' with hg | hg
          all_goals
            go_wp2
            all_goals go_ret
            all_goals exact ⟨ret_bool (by rw [hN.out, hf.out]), rfl⟩
      · go_wp2
        go_ret
        exact ⟨ret_bool (by rw [hN.out, all_take_size _ s k (by omega) ha.out]), rfl⟩
  · have hN : Hid (nameOk s.data.toList = false) := name_short s h
    have hd : decide ((1 : Int) ≤ (s.size : Int) ∧ (s.size : Int) ≤ 20) = false := by simp only [decide_eq_false_iff_not]; omega
    go_enter Tryz.func73, Tryz.ntmps73
    go_wp2_with fail
    refine (c67 _ _ _ _).mono ?_
    rintro e w' ⟨rfl, rfl⟩
    rw [hd]
    go_wp2
    go_ret
    exact ⟨ret_bool (by rw [hN.out]), rfl⟩

/-- a valid result -/
def vr (c : Int) (l : List UInt8) : Bool :=
  if c = 0 ∨ c = 1 then decide (l.length ≤ 300) else if c = 2 then num40 l else if c = 3 then l.isEmpty else if c = 4 ∨ c = 5 ∨ c = 7 then nameOk l else false
theorem num40_len {l : List UInt8} (h : num40 l = true) : l.length ≤ 2 := by
  simp only [num40, Bool.and_eq_true, decide_eq_true_eq] at h
  exact val_dig_len l h.1.2 h.1.1 h.2
theorem vr_long {c : Int} {l : List UInt8} (h : 300 < l.length) : vr c l = false := by
  have h1 : decide (l.length ≤ 300) = false := by simp only [decide_eq_false_iff_not]; omega
  have h2 : num40 l = false := by
    by_cases h2 : num40 l = true
    · have := num40_len h2; omega
    · simpa using h2
  have h3 : l.isEmpty = false := by cases l with | nil => simp at h | cons a r => rfl
  have h4 : nameOk l = false := by
    unfold nameOk
    have : decide (1 ≤ l.length ∧ l.length ≤ 20) = false := by simp only [decide_eq_false_iff_not]; omega
    rw [this]; rfl
  unfold vr
  rw [h1, h2, h3, h4]
  split <;> (try rfl)
  split <;> (try rfl)
  split <;> (try rfl)
  split <;> rfl

set_option maxHeartbeats 1000000 in
theorem c92 (c : Int) (s : ByteArray) (w : World) (hs : s.size ≤ 1048700) :
    Calls Tryz.prog 92 #[.agg #[.int .i64 c, .string s]] w fun e w' => e = .returned (.bool (vr c s.data.toList)) ∧ Below w.heap.size w w' := by
  have hlen : s.data.toList.length = s.size := by simp
  by_cases h01 : c = 0 ∨ c = 1
  · have hV : Hid (vr c s.data.toList = decide ((s.size : Int) ≤ 300)) := by unfold vr; rw [if_pos h01, hlen]; simp [Hid]; omega
    clear hlen
    rcases h01 with rfl | rfl
    all_goals
      go_enter Tryz.func92, Tryz.ntmps92
      go_wp2
      go_ret
      exact ⟨ret_bool (by rw [hV.out]), (Below.refl _ _).alloc (Nat.le_refl _) _⟩
  by_cases h2 : c = 2
  · subst h2
    have hV : Hid (vr 2 s.data.toList = num40 s.data.toList) := rfl
    clear hlen h01
    go_enter Tryz.func92, Tryz.ntmps92
    go_wp2_with fail
    refine (c123 _ _ hs).mono ?_
    rintro e w1 ⟨rfl, rfl⟩
    go_wp2
    go_ret
    exact ⟨ret_bool (by rw [hV.out]), (Below.refl _ _).alloc (Nat.le_refl _) _⟩
  by_cases h3 : c = 3
  · subst h3
    have hV : Hid (vr 3 s.data.toList = s.toList.isEmpty) := by rw [ByteArray.toList_eq]; rfl
    clear hlen h01 h2
    go_enter Tryz.func92, Tryz.ntmps92
    go_wp2
    go_ret
    exact ⟨ret_bool (by rw [hV.out]), (Below.refl _ _).alloc (Nat.le_refl _) _⟩
  by_cases h4 : c = 4 ∨ c = 5 ∨ c = 7
  · have hV : Hid (vr c s.data.toList = nameOk s.data.toList) := by unfold vr; rw [if_neg h01, if_neg h2, if_neg h3, if_pos h4]; rfl
    clear hlen h01 h2 h3
    rcases h4 with rfl | rfl | rfl
    all_goals
      go_enter Tryz.func92, Tryz.ntmps92
      go_wp2_with fail
      refine (c87 _ _ hs).mono ?_
      rintro e w1 ⟨rfl, rfl⟩
      go_wp2
      go_ret
      exact ⟨ret_bool (by rw [hV.out]), (Below.refl _ _).alloc (Nat.le_refl _) _⟩
  · have hV : Hid (vr c s.data.toList = false) := by unfold vr; rw [if_neg h01, if_neg h2, if_neg h3, if_neg h4]; rfl
    have e0 : (c == 0) = false := by simp; omega
    have e1 : (c == 1) = false := by simp; omega
    have e2 : (c == 2) = false := by simp; omega
    have e3 : (c == 3) = false := by simp; omega
    have e4 : (c == 4) = false := by simp; omega
    have e5 : (c == 5) = false := by simp; omega
    have e7 : (c == 7) = false := by simp; omega
    clear hlen h01 h2 h3 h4
    go_enter Tryz.func92, Tryz.ntmps92
    go_wp2
    go_ret
    exact ⟨ret_bool (by rw [hV.out]), (Below.refl _ _).alloc (Nat.le_refl _) _⟩

set_option maxHeartbeats 1000000 in
theorem c76 (c : Int) (s : ByteArray) (w : World) (hs : s.size ≤ 1048700) :
    Calls Tryz.prog 76 #[.agg #[.int .i64 c, .string s]] w fun e w' => e = .returned (.bool (vr c s.data.toList)) ∧ Below w.heap.size w w' := by
  have hlen : s.data.toList.length = s.size := by simp
  by_cases h300 : 300 < s.size
  · have hV : Hid (vr c s.data.toList = false) := vr_long (by omega)
    clear hlen
    go_enter Tryz.func76, Tryz.ntmps76
    go_wp2
    go_ret
    exact ⟨ret_bool (by rw [hV.out]), (Below.refl _ _).alloc (Nat.le_refl _) _⟩
  by_cases h01 : c = 0 ∨ c = 1
  · have hV : Hid (vr c s.data.toList = true) := by unfold vr; rw [if_pos h01, hlen]; simp [Hid]; omega
    clear hlen
    rcases h01 with rfl | rfl
    all_goals
      go_enter Tryz.func76, Tryz.ntmps76
      go_wp2
      go_ret
      exact ⟨ret_bool (by rw [hV.out]), (Below.refl _ _).alloc (Nat.le_refl _) _⟩
  by_cases h2 : c = 2
  · subst h2
    have hV : Hid (vr 2 s.data.toList = num40 s.data.toList) := rfl
    clear hlen h01
    go_enter Tryz.func76, Tryz.ntmps76
    go_wp2_with fail
    refine (c83 _ _ hs).mono ?_
    rintro e w1 ⟨rfl, hb1⟩
    go_wp2_with fail
    refine (c67 _ _ _ _).mono ?_
    rintro e w2 ⟨rfl, rfl⟩
    go_wp2
    go_ret
    refine ⟨ret_bool (by rw [hV.out]; rw [← n29_num40]; simp), ((Below.refl _ _).alloc (Nat.le_refl _) _).trans (hb1.mono (by simp))⟩
  by_cases h3 : c = 3
  · subst h3
    have hV : Hid (vr 3 s.data.toList = s.toList.isEmpty) := by rw [ByteArray.toList_eq]; rfl
    clear hlen h01 h2
    go_enter Tryz.func76, Tryz.ntmps76
    go_wp2
    go_ret
    exact ⟨ret_bool (by rw [hV.out]), (Below.refl _ _).alloc (Nat.le_refl _) _⟩
  by_cases h4 : c = 4 ∨ c = 5 ∨ c = 7
  · have hV : Hid (vr c s.data.toList = nameOk s.data.toList) := by unfold vr; rw [if_neg h01, if_neg h2, if_neg h3, if_pos h4]; rfl
    clear hlen h01 h2 h3
    rcases h4 with rfl | rfl | rfl
    all_goals
      go_enter Tryz.func76, Tryz.ntmps76
      go_wp2_with fail
      refine (c73 _ _ hs).mono ?_
      rintro e w1 ⟨rfl, rfl⟩
      go_wp2
      go_ret
      exact ⟨ret_bool (by rw [hV.out]), (Below.refl _ _).alloc (Nat.le_refl _) _⟩
  · have hV : Hid (vr c s.data.toList = false) := by unfold vr; rw [if_neg h01, if_neg h2, if_neg h3, if_neg h4]; rfl
    have e0 : (c == 0) = false := by simp; omega
    have e1 : (c == 1) = false := by simp; omega
    have e2 : (c == 2) = false := by simp; omega
    have e3 : (c == 3) = false := by simp; omega
    have e4 : (c == 4) = false := by simp; omega
    have e5 : (c == 5) = false := by simp; omega
    have e7 : (c == 7) = false := by simp; omega
    clear hlen h01 h2 h3 h4
    go_enter Tryz.func76, Tryz.ntmps76
    go_wp2
    go_ret
    exact ⟨ret_bool (by rw [hV.out]), (Below.refl _ _).alloc (Nat.le_refl _) _⟩

set_option maxHeartbeats 400000 in
theorem c86 (c : Int) (s : ByteArray) (w : World) :
    Calls Tryz.prog 86 #[.agg #[.int .i64 c, .string s]] w fun e w' => e = .returned (.agg #[.int .i64 c, .string s]) ∧ Below w.heap.size w w' := by
  go_enter Tryz.func86, Tryz.ntmps86
  go_wp2
  refine bodyPost_ret (v := .agg #[.int .i64 c, .string s]) (by simp [results, Tryz.results86, go_sem]) rfl ⟨rfl, ?_⟩
  exact (((Below.refl _ _).alloc (Nat.le_refl _) _).alloc (by simp) _).alloc (by simp; omega) _


end Go.Proofs.YtpjpckmfehfniaaGreatDoor
namespace Go.Proofs.YtpjpckmfehfniaaGreatDoor
open Go.RowKit

/-- A result: Code, Text. -/
structure R2 where
  code : Int
  tx : ByteArray
def r2z : R2 := ⟨0, ⟨#[]⟩⟩
/-- A slice's cells hold these results. -/
def ResAt (w : World) (a : Option Addr) (rs : List R2) : Prop :=
  rs = [] ∨ ∃ b off, a = some ⟨b, off, none⟩ ∧ b < w.heap.size ∧ ∀ i, i < rs.length → w.cell? ⟨b, off + i * 2, none⟩ = some (.int .i64 (rs.getD i r2z).code) ∧ w.cell? ⟨b, off + i * 2 + 1, none⟩ = some (.string (rs.getD i r2z).tx)
theorem res_some {w : World} {a : Option Addr} {rs : List R2} (h : ResAt w a rs) : ∃ b off, (rs = [] ∨ (a = some ⟨b, off, none⟩ ∧ b < w.heap.size ∧ ∀ i, i < rs.length → w.cell? ⟨b, off + i * 2, none⟩ = some (.int .i64 (rs.getD i r2z).code) ∧ w.cell? ⟨b, off + i * 2 + 1, none⟩ = some (.string (rs.getD i r2z).tx))) := by
  rcases h with h | ⟨b, off, h⟩
  · exact ⟨0, 0, .inl h⟩
  · exact ⟨b, off, .inr h⟩
theorem res_below {w w' : World} {a : Option Addr} {rs : List R2} (h : ResAt w a rs) (hb : Below w.heap.size w w') : ResAt w' a rs := by
  rcases h with h | ⟨b, off, h1, h2, h3⟩
  · exact .inl h
  · exact .inr ⟨b, off, h1, Nat.lt_of_lt_of_le h2 hb.size, fun i hi => by rw [hb.cell (by exact h2), hb.cell (by exact h2)]; exact h3 i hi⟩
theorem getD_small2 {rs : List R2} {B : Nat} (h : ∀ i, i < rs.length → (rs.getD i r2z).tx.size ≤ B) (i : Nat) : (rs.getD i r2z).tx.size ≤ B := by
  rcases Nat.lt_or_ge i rs.length with h' | h'
  · exact h i h'
  · have e : rs.getD i r2z = r2z := by simp [List.getD, List.getElem?_eq_none h']
    rw [e]; exact Nat.zero_le _

set_option maxHeartbeats 400000 in
theorem c72 (x : R2) (l : Int) (w : World) (hs : x.tx.size ≤ 9223372036854775807) (h0 : 0 ≤ l) (h1 : l ≤ 1048576) :
    Calls Tryz.prog 72 #[.agg #[.int .i64 x.code, .string x.tx], .int .i64 l] w fun e w' => (∃ r : Int, e = .returned (.int .i64 r) ∧ (0 ≤ r → (x.tx.size : Int) ≤ 1048576 ∧ r ≤ 1048576)) ∧ Below w.heap.size w w' := by
  by_cases h : l < x.tx.size
  · go_enter Tryz.func72, Tryz.ntmps72
    go_wp2
    go_ret
    exact ⟨⟨-1, rfl, fun h => by omega⟩, (Below.refl _ _).alloc (Nat.le_refl _) _⟩
  · go_enter Tryz.func72, Tryz.ntmps72
    go_wp2
    go_ret
    exact ⟨⟨_, rfl, fun h => by omega⟩, (Below.refl _ _).alloc (Nat.le_refl _) _⟩

set_option maxHeartbeats 400000 in
theorem c86b (x : R2) (w : World) :
    Calls Tryz.prog 86 #[.agg #[.int .i64 x.code, .string x.tx]] w fun e w' => e = .returned (.agg #[.int .i64 x.code, .string x.tx]) ∧ Below w.heap.size w w' := by
  go_enter Tryz.func86, Tryz.ntmps86
  go_wp2
  refine bodyPost_ret (v := .agg #[.int .i64 x.code, .string x.tx]) (by simp [results, Tryz.results86, go_sem]) rfl ⟨rfl, ?_⟩
  exact (((Below.refl _ _).alloc (Nat.le_refl _) _).alloc (by simp) _).alloc (by simp; omega) _

theorem set2_other (u : World) (B j m : Nat) (v0 v1 : Value) (h0 : m ≠ j) (h1 : m ≠ j + 1) : ((u.setCell ⟨B, j, none⟩ v0).setCell ⟨B, j + 1, none⟩ v1).cell? ⟨B, m, none⟩ = u.cell? ⟨B, m, none⟩ := by
  rw [World.cell?_setCell_other _ _ _ _ (adr_ne (Ne.symm h1)), World.cell?_setCell_other _ _ _ _ (adr_ne (Ne.symm h0))]
theorem set2_at (u : World) (B j : Nat) (v0 v1 x0 x1 : Value) (h0 : u.cell? ⟨B, j, none⟩ = some x0) (h1 : u.cell? ⟨B, j + 1, none⟩ = some x1) :
    ((u.setCell ⟨B, j, none⟩ v0).setCell ⟨B, j + 1, none⟩ v1).cell? ⟨B, j, none⟩ = some v0 ∧ ((u.setCell ⟨B, j, none⟩ v0).setCell ⟨B, j + 1, none⟩ v1).cell? ⟨B, j + 1, none⟩ = some v1 := by
  have a1 : (u.setCell ⟨B, j, none⟩ v0).cell? ⟨B, j + 1, none⟩ = some x1 := by rw [World.cell?_setCell_other _ _ _ _ (adr_ne (by omega))]; exact h1
  refine ⟨?_, World.cell?_setCell_same _ _ _ a1⟩
  rw [World.cell?_setCell_other _ _ _ _ (adr_ne (by omega))]; exact World.cell?_setCell_same _ _ _ h0
theorem info28 : (Tryz.prog.info? 28).map (fun i => (i.zero, i.size, i.bytes)) = some (some (.agg #[.int .i64 0, .string ⟨#[]⟩]), 2, 24) := by kernel_rfl
theorem made2 (n j : Nat) (h : j < n * 2) : (madeCells #[Value.int .i64 0, .string ⟨#[]⟩] (n * 2))[j]? = (#[Value.int .i64 0, .string ⟨#[]⟩] : Array Value)[j % 2]? := by
  have h3 : j % 2 < 2 := Nat.mod_lt _ (by omega)
  rw [Array.getElem?_eq_getElem (by simpa [size_madeCells] using h), Array.getElem?_eq_getElem (by simpa using h3)]
  simp [madeCells, h3]

set_option maxHeartbeats 400000 in
theorem c42 (x : R2) (w : World) :
    Calls Tryz.prog 42 #[.agg #[.int .i64 x.code, .string x.tx], .agg #[.int .i64 x.code, .string x.tx]] w fun e w' => e = .returned (.bool true) ∧ Below w.heap.size w w' := by
  go_enter Tryz.func42, Tryz.ntmps42
  go_wp2
  go_ret
  exact ⟨rfl, ((Below.refl _ _).alloc (Nat.le_refl _) _).alloc (by simp) _⟩

end Go.Proofs.YtpjpckmfehfniaaGreatDoor
