import Derived.Test.YtggcgnfockpgmaaGreatDoorJ6
namespace Go.Proofs.YtggcgnfockpgmaaGreatDoor
open Go.RowKit

set_option maxHeartbeats 1000000 in
theorem c28 (x : M3) (l : Int) (w : World) (hs : x.le 9223372036854775807) (h0 : 0 ≤ l) (h1 : l ≤ 1048576) :
    Calls Tryz.prog 28 #[.agg #[.string x.nm, .string x.tl, .string x.ar], .int .i64 l] w fun e w' => (∃ r : Int, e = .returned (.int .i64 r) ∧ (0 ≤ r → x.le 1048576 ∧ r ≤ 1048576)) ∧ Below w.heap.size w w' := by
  obtain ⟨s1, s2, s3⟩ := hs
  have HL : Hid (∀ r : Int, (0 ≤ r → ((x.nm.size : Int) ≤ l ∧ (x.tl.size : Int) ≤ l ∧ (x.ar.size : Int) ≤ l ∧ r ≤ l)) → (0 ≤ r → x.le 1048576 ∧ r ≤ 1048576)) := fun r h g => by
    have := h g
    exact ⟨⟨by omega, by omega, by omega⟩, by omega⟩
  by_cases h' : l < x.nm.size
  · go_enter Tryz.func28, Tryz.ntmps28
    go_wp2
    go_ret
    exact ⟨⟨-1, rfl, HL.out _ fun h => by omega⟩, (Below.refl _ _).alloc (Nat.le_refl _) _⟩
  · by_cases h'' : l < x.nm.size + x.tl.size
    · go_enter Tryz.func28, Tryz.ntmps28
      go_wp2
      go_ret
      exact ⟨⟨-1, rfl, HL.out _ fun h => by omega⟩, (Below.refl _ _).alloc (Nat.le_refl _) _⟩
    · by_cases h3 : l < x.nm.size + x.tl.size + x.ar.size
      · go_enter Tryz.func28, Tryz.ntmps28
        go_wp2
        go_ret
        exact ⟨⟨-1, rfl, HL.out _ fun h => by omega⟩, (Below.refl _ _).alloc (Nat.le_refl _) _⟩
      · go_enter Tryz.func28, Tryz.ntmps28
        go_wp2
        go_ret
        exact ⟨⟨_, rfl, HL.out _ fun h => by omega⟩, (Below.refl _ _).alloc (Nat.le_refl _) _⟩
set_option maxHeartbeats 400000 in
theorem c36 (x : M3) (w : World) :
    Calls Tryz.prog 36 #[.agg #[.string x.nm, .string x.tl, .string x.ar]] w fun e w' => e = .returned (.agg #[.string x.nm, .string x.tl, .string x.ar]) ∧ Below w.heap.size w w' := by
  go_enter Tryz.func36, Tryz.ntmps36
  go_wp2
  refine bodyPost_ret (v := .agg #[.string x.nm, .string x.tl, .string x.ar]) (by simp [results, Tryz.results36, go_sem]) rfl ⟨rfl, ?_⟩
  exact (((Below.refl _ _).alloc (Nat.le_refl _) _).alloc (by simp) _).alloc (by simp; omega) _

/-- A deed: Name, Made, Make, Looks, Result. -/
structure D8 where
  nm : ByteArray
  made : Bool
  km : M3
  ls : List L4
  cd : Int
  tx : ByteArray
def d8z : D8 := ⟨⟨#[]⟩, false, m3z, [], 0, ⟨#[]⟩⟩
def D8.le (x : D8) (B : Nat) : Prop := x.nm.size ≤ B ∧ x.km.le B ∧ (x.ls.length ≤ B ∧ ∀ i, (x.ls.getD i l4z).le B) ∧ x.tx.size ≤ B
def DeedAt (w : World) (b o : Nat) (x : D8) : Prop := ∃ ai ci, (w.cell? ⟨b, o, none⟩ = some (.string x.nm) ∧ w.cell? ⟨b, o + 1, none⟩ = some (.bool x.made) ∧ w.cell? ⟨b, o + 2, none⟩ = some (.string x.km.nm) ∧ w.cell? ⟨b, o + 3, none⟩ = some (.string x.km.tl) ∧ w.cell? ⟨b, o + 4, none⟩ = some (.string x.km.ar) ∧ w.cell? ⟨b, o + 5, none⟩ = some (.slice ai x.ls.length ci) ∧ w.cell? ⟨b, o + 6, none⟩ = some (.int .i64 x.cd) ∧ w.cell? ⟨b, o + 7, none⟩ = some (.string x.tx)) ∧ LksAt w ai x.ls
def DeedsAt (w : World) (a : Option Addr) (is : List D8) : Prop := is = [] ∨ ∃ b off, a = some ⟨b, off, none⟩ ∧ b < w.heap.size ∧ ∀ i, i < is.length → DeedAt w b (off + i * 8) (is.getD i d8z)
theorem DeedAt.below {w w' : World} {b o : Nat} {x : D8} (h : DeedAt w b o x) (hlt : b < w.heap.size) (hb : Below w.heap.size w w') : DeedAt w' b o x := by
  obtain ⟨ai, ci, hc, hg⟩ := h
  refine ⟨ai, ci, ?_, lks_below hg hb⟩
  rw [hb.cell (by exact hlt), hb.cell (by exact hlt), hb.cell (by exact hlt), hb.cell (by exact hlt), hb.cell (by exact hlt), hb.cell (by exact hlt), hb.cell (by exact hlt), hb.cell (by exact hlt)]
  exact hc
theorem deeds_some {w : World} {a : Option Addr} {is : List D8} (h : DeedsAt w a is) : ∃ b off, (is = [] ∨ (a = some ⟨b, off, none⟩ ∧ b < w.heap.size ∧ ∀ i, i < is.length → DeedAt w b (off + i * 8) (is.getD i d8z))) := by
  rcases h with h | ⟨b, off, h⟩
  · exact ⟨0, 0, .inl h⟩
  · exact ⟨b, off, .inr h⟩
theorem deeds_below {w w' : World} {a : Option Addr} {is : List D8} (h : DeedsAt w a is) (hb : Below w.heap.size w w') : DeedsAt w' a is := by
  rcases h with h | ⟨b, off, h1, h2, h3⟩
  · exact .inl h
  · exact .inr ⟨b, off, h1, Nat.lt_of_lt_of_le h2 hb.size, fun i hi => (h3 i hi).below h2 hb⟩
theorem getD_smallD {is : List D8} {B : Nat} (h : ∀ i, i < is.length → (is.getD i d8z).le B) (i : Nat) : (is.getD i d8z).le B := by
  rcases Nat.lt_or_ge i is.length with h' | h'
  · exact h i h'
  · have e : is.getD i d8z = d8z := by simp [List.getD, List.getElem?_eq_none h']
    rw [e]; exact ⟨Nat.zero_le _, ⟨Nat.zero_le _, Nat.zero_le _, Nat.zero_le _⟩, ⟨Nat.zero_le _, fun i => ⟨Nat.zero_le _, Nat.zero_le _⟩⟩, Nat.zero_le _⟩

set_option maxHeartbeats 2000000 in
theorem c13 (x : D8) (ai : Option Addr) (ci : Nat) (l : Int) (w : World) (hs : x.le 9223372036854775807) (h0 : 0 ≤ l) (h1 : l ≤ 1048576) (hat : LksAt w ai x.ls) :
    Calls Tryz.prog 13 #[.agg #[.string x.nm, .bool x.made, .string x.km.nm, .string x.km.tl, .string x.km.ar, .slice ai x.ls.length ci, .int .i64 x.cd, .string x.tx], .int .i64 l] w fun e w' => (∃ r : Int, e = .returned (.int .i64 r) ∧ (0 ≤ r → x.le 1048576 ∧ r ≤ 1048576)) ∧ Below w.heap.size w w' := by
  obtain ⟨s1, s2, ⟨s3, s4⟩, s5⟩ := hs
  have HA : Hid (LksAt w ai x.ls) := hat
  clear hat
  by_cases h' : l < x.nm.size
  · go_enter Tryz.func13, Tryz.ntmps13
    go_wp2
    go_ret
    exact ⟨⟨-1, rfl, fun h => by omega⟩, (Below.refl _ _).alloc (Nat.le_refl _) _⟩
  · have hB0 : ∀ o, Below w.heap.size w (w.alloc o) := fun o => (Below.refl _ _).alloc (Nat.le_refl _) _
    go_enter Tryz.func13, Tryz.ntmps13
    go_wp2_with fail
    refine (c28 x.km (l - x.nm.size) _ s2 (by omega) (by omega)).mono ?_
    rintro e w1 ⟨⟨r, rfl, hr⟩, hb1⟩
    have hB1 : Below w.heap.size w w1 := (hB0 _).trans (hb1.mono (by simp))
    have hC1 := hb1
    by_cases hn : r < 0
    · clear hr
      go_wp2
      go_ret
      exact ⟨⟨-1, rfl, fun h => by omega⟩, hB1⟩
    · have hr' := hr (by omega)
      clear hr
      have k5 : w1.cell? ⟨w.heap.size, 5, none⟩ = some (.slice ai x.ls.length ci) := (hb1.cell (p := ⟨w.heap.size, 5, none⟩) (by simp)).trans (by simp [go_sem])
      have k6 : w1.cell? ⟨w.heap.size, 6, none⟩ = some (.int .i64 x.cd) := (hb1.cell (p := ⟨w.heap.size, 6, none⟩) (by simp)).trans (by simp [go_sem])
      have k7 : w1.cell? ⟨w.heap.size, 7, none⟩ = some (.string x.tx) := (hb1.cell (p := ⟨w.heap.size, 7, none⟩) (by simp)).trans (by simp [go_sem])
      have hz1 : w.heap.size < w1.heap.size := by have := hb1.size; simp at this; omega
      clear hb1 hC1
      go_wp2_with fail
      refine (c29 ai ci x.ls r w1 (by omega) hr'.2 s4 s3 (lks_below HA.out hB1)).mono ?_
      rintro e w2 ⟨⟨r2, rfl, hr2⟩, hb2⟩
      have hB2 : Below w.heap.size w w2 := hB1.trans (hb2.mono hB1.size)
      by_cases hn2 : r2 < 0
      · clear hr2
        go_wp2
        go_ret
        exact ⟨⟨-1, rfl, fun h => by omega⟩, hB2⟩
      · have hr2' := hr2 (by omega)
        clear hr2
        have m6 := (hb2.cell (p := ⟨w.heap.size, 6, none⟩) (by exact hz1)).trans k6
        have m7 := (hb2.cell (p := ⟨w.heap.size, 7, none⟩) (by exact hz1)).trans k7
        clear k5 k6 k7
        go_wp2_with fail
        refine (c30 x.cd x.tx r2 w2 s5 (by omega) hr2'.2.2).mono ?_
        rintro e w3 ⟨⟨r3, rfl, hr3⟩, hb3⟩
        have hB3 : Below w.heap.size w w3 := hB2.trans (hb3.mono hB2.size)
        by_cases hn3 : r3 < 0
        · clear hr3
          go_wp2
          go_ret
          exact ⟨⟨-1, rfl, fun h => by omega⟩, hB3⟩
        · have hr3' := hr3 (by omega)
          have HL : Hid (x.le 1048576) := ⟨by omega, hr'.1, ⟨hr2'.1, hr2'.2.1⟩, hr3'.1⟩
          clear hr3
          go_wp2
          go_ret
          exact ⟨⟨r3, rfl, fun h => ⟨HL.out, hr3'.2⟩⟩, hB3⟩
end Go.Proofs.YtggcgnfockpgmaaGreatDoor
