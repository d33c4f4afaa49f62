import Derived.Test.YtdcgjdgpiogdaaaGreatDoorP1
namespace Go.Proofs.YtdcgjdgpiogdaaaGreatDoor
open Go.RowKit

/-- A look: Has, Name, Result (Code, Text). -/
structure L4 where
  has : Bool
  nm : ByteArray
  cd : Int
  tx : ByteArray
def l4z : L4 := ⟨false, ⟨#[]⟩, 0, ⟨#[]⟩⟩
/-- No string of it is longer. -/
def L4.le (x : L4) (B : Nat) : Prop := x.nm.size ≤ B ∧ x.tx.size ≤ B
/-- A slice's cells hold these looks. -/
def LksAt (w : World) (a : Option Addr) (is : List L4) : Prop :=
  is = [] ∨ ∃ b off, a = some ⟨b, off, none⟩ ∧ b < w.heap.size ∧ ∀ i, i < is.length → w.cell? ⟨b, off + i * 4, none⟩ = some (.bool (is.getD i l4z).has) ∧ w.cell? ⟨b, off + i * 4 + 1, none⟩ = some (.string (is.getD i l4z).nm) ∧ w.cell? ⟨b, off + i * 4 + 2, none⟩ = some (.int .i64 (is.getD i l4z).cd) ∧ w.cell? ⟨b, off + i * 4 + 3, none⟩ = some (.string (is.getD i l4z).tx)

set_option maxHeartbeats 400000 in
theorem c71 (cd : Int) (tx : ByteArray) (l : Int) (w : World) (hs : tx.size ≤ 9223372036854775807) (h0 : 0 ≤ l) (h1 : l ≤ 1048576) :
    Calls Tryz.prog 71 #[.agg #[.int .i64 cd, .string tx], .int .i64 l] w fun e w' => (∃ r : Int, e = .returned (.int .i64 r) ∧ (0 ≤ r → tx.size ≤ 1048576 ∧ r ≤ 1048576)) ∧ Below w.heap.size w w' := by
  by_cases h' : l < tx.size
  · go_enter Tryz.func71, Tryz.ntmps71
    go_wp2
    go_ret
    exact ⟨⟨-1, rfl, fun h => by omega⟩, (Below.refl _ _).alloc (Nat.le_refl _) _⟩
  · go_enter Tryz.func71, Tryz.ntmps71
    go_wp2
    go_ret
    exact ⟨⟨_, rfl, fun h => by omega⟩, (Below.refl _ _).alloc (Nat.le_refl _) _⟩
set_option maxHeartbeats 400000 in
theorem c75 (cd : Int) (tx : ByteArray) (w : World) :
    Calls Tryz.prog 75 #[.agg #[.int .i64 cd, .string tx]] w fun e w' => e = .returned (.agg #[.int .i64 cd, .string tx]) ∧ Below w.heap.size w w' := by
  go_enter Tryz.func75, Tryz.ntmps75
  go_wp2
  refine bodyPost_ret (v := .agg #[.int .i64 cd, .string tx]) (by simp [results, Tryz.results75, go_sem]) rfl ⟨rfl, ?_⟩
  exact (((Below.refl _ _).alloc (Nat.le_refl _) _).alloc (by simp) _).alloc (by simp; omega) _
set_option maxHeartbeats 400000 in
theorem c87 (cd : Int) (tx : ByteArray) (w : World) :
    Calls Tryz.prog 87 #[.agg #[.int .i64 cd, .string tx], .agg #[.int .i64 cd, .string tx]] w fun e w' => e = .returned (.bool true) ∧ Below w.heap.size w w' := by
  go_enter Tryz.func87, Tryz.ntmps87
  go_wp2
  go_ret
  exact ⟨rfl, ((Below.refl _ _).alloc (Nat.le_refl _) _).alloc (by simp) _⟩

set_option maxHeartbeats 1000000 in
theorem c70 (x : L4) (l : Int) (w : World) (hs : x.le 9223372036854775807) (h0 : 0 ≤ l) (h1 : l ≤ 1048576) :
    Calls Tryz.prog 70 #[.agg #[.bool x.has, .string x.nm, .int .i64 x.cd, .string x.tx], .int .i64 l] w fun e w' => (∃ r : Int, e = .returned (.int .i64 r) ∧ (0 ≤ r → x.le 1048576 ∧ r ≤ 1048576)) ∧ Below w.heap.size w w' := by
  obtain ⟨s2, s3⟩ := hs
  by_cases h' : l < x.nm.size
  · go_enter Tryz.func70, Tryz.ntmps70
    go_wp2
    go_ret
    exact ⟨⟨-1, rfl, fun h => by omega⟩, (Below.refl _ _).alloc (Nat.le_refl _) _⟩
  · have h30 := fun u => c71 x.cd x.tx (l - x.nm.size) u s3 (by omega) (by omega)
    go_enter Tryz.func70, Tryz.ntmps70
    go_wp2_with fail
    refine (h30 _).mono ?_
    rintro e w1 ⟨⟨r, rfl, hr⟩, hb1⟩
    have hB1 : Below w.heap.size w w1 := ((Below.refl _ _).alloc (Nat.le_refl _) _).trans (hb1.mono (by simp))
    by_cases hn : r < 0
    · clear hr
      go_wp2
      go_ret
      exact ⟨⟨-1, rfl, fun h => by omega⟩, hB1⟩
    · have hr' := hr (by omega)
      clear hr
      go_wp2
      go_ret
      exact ⟨⟨r, rfl, fun h => ⟨⟨by omega, hr'.1⟩, hr'.2⟩⟩, hB1⟩

theorem lks_some {w : World} {a : Option Addr} {is : List L4} (h : LksAt w a is) : ∃ b off, (is = [] ∨ (a = some ⟨b, off, none⟩ ∧ b < w.heap.size ∧ ∀ i, i < is.length → w.cell? ⟨b, off + i * 4, none⟩ = some (.bool (is.getD i l4z).has) ∧ w.cell? ⟨b, off + i * 4 + 1, none⟩ = some (.string (is.getD i l4z).nm) ∧ w.cell? ⟨b, off + i * 4 + 2, none⟩ = some (.int .i64 (is.getD i l4z).cd) ∧ w.cell? ⟨b, off + i * 4 + 3, none⟩ = some (.string (is.getD i l4z).tx))) := by
  rcases h with h | ⟨b, off, h⟩
  · exact ⟨0, 0, .inl h⟩
  · exact ⟨b, off, .inr h⟩
theorem lks_below {w w' : World} {a : Option Addr} {is : List L4} (h : LksAt w a is) (hb : Below w.heap.size w w') : LksAt w' a is := by
  rcases h with h | ⟨b, off, h1, h2, h3⟩
  · exact .inl h
  · exact .inr ⟨b, off, h1, Nat.lt_of_lt_of_le h2 hb.size, fun i hi => by rw [hb.cell (by exact h2), hb.cell (by exact h2), hb.cell (by exact h2), hb.cell (by exact h2)]; exact h3 i hi⟩
theorem lks_set {w : World} {a : Option Addr} {is : List L4} {q : Addr} {v : Value} (h : LksAt w a is) (hq : ∀ b off, a = some ⟨b, off, none⟩ → is ≠ [] → q.block ≠ b) : LksAt (w.setCell q v) a is := by
  rcases Nat.eq_zero_or_pos is.length with e | e
  · exact .inl (List.eq_nil_of_length_eq_zero e)
  have hn : is ≠ [] := fun c => by rw [c] at e; simp at e
  rcases h with h | ⟨b, off, h1, h2, h3⟩
  · exact absurd h hn
  · have hne : ∀ j, q ≠ ⟨b, j, none⟩ := fun j e => hq b off h1 hn (by rw [e])
    refine .inr ⟨b, off, h1, by simpa using h2, fun i hi => ?_⟩
    rw [World.cell?_setCell_other _ _ _ _ (hne _), World.cell?_setCell_other _ _ _ _ (hne _), World.cell?_setCell_other _ _ _ _ (hne _), World.cell?_setCell_other _ _ _ _ (hne _)]
    exact h3 i hi
theorem getD_smallL {is : List L4} {B : Nat} (h : ∀ i, i < is.length → (is.getD i l4z).le B) (i : Nat) : (is.getD i l4z).le B := by
  rcases Nat.lt_or_ge i is.length with h' | h'
  · exact h i h'
  · have e : is.getD i l4z = l4z := by simp [List.getD, List.getElem?_eq_none h']
    rw [e]; exact ⟨Nat.zero_le _, Nat.zero_le _⟩

set_option maxHeartbeats 1000000 in
theorem c32 (a : Option Addr) (cap : Nat) (is : List L4) (l : Int) (w : World) (h0 : 0 ≤ l) (h1 : l ≤ 1048576) (hs : ∀ i, (is.getD i l4z).le 9223372036854775807) (hl : is.length ≤ 9223372036854775807) (hat : LksAt w a is) :
    Calls Tryz.prog 32 #[.slice a is.length cap, .int .i64 l] w fun e w' => (∃ r : Int, e = .returned (.int .i64 r) ∧ (0 ≤ r → is.length ≤ 1048576 ∧ (∀ i, (is.getD i l4z).le 1048576) ∧ r ≤ 1048576)) ∧ Below w.heap.size w w' := by
  obtain ⟨b, off, hc⟩ := lks_some hat
  have HC : Hid (is = [] ∨ (a = some ⟨b, off, none⟩ ∧ b < w.heap.size ∧ ∀ i, i < is.length → w.cell? ⟨b, off + i * 4, none⟩ = some (.bool (is.getD i l4z).has) ∧ w.cell? ⟨b, off + i * 4 + 1, none⟩ = some (.string (is.getD i l4z).nm) ∧ w.cell? ⟨b, off + i * 4 + 2, none⟩ = some (.int .i64 (is.getD i l4z).cd) ∧ w.cell? ⟨b, off + i * 4 + 3, none⟩ = some (.string (is.getD i l4z).tx))) := hc
  clear hc hat
  by_cases hbig : l < is.length
  · go_enter Tryz.func32, Tryz.ntmps32
    go_wp2
    go_ret
    exact ⟨⟨-1, rfl, fun h => by omega⟩, Below.refl _ _⟩
  · go_enter Tryz.func32, Tryz.ntmps32
    go_wp2_with fail
    go_loopw [1, 5] (fun l i wr => ∃ (k : Nat) (r : Int), k ≤ is.length ∧ i = .int .i64 k ∧ l = .int .i64 r ∧ 0 ≤ r ∧ r ≤ 1048576 ∧ Hid (∀ i, i < k → (is.getD i l4z).le 1048576) ∧ Below w.heap.size w wr) (fun _ i _ => is.length - (intOf i).toNat)
    case atStart => exact ⟨0, _, Nat.zero_le _, rfl, rfl, by omega, by omega, fun i h => absurd h (Nat.not_lt_zero _), Below.refl _ _⟩
    case round =>
      obtain ⟨k, r, hk, rfl, rfl, hr0, hr1, hsm, hb⟩ := hrel
      by_cases hlt : k < is.length
      · rcases HC.out with hss | ⟨ha, hbw, hcell⟩
        · rw [hss] at hlt; exact absurd hlt (Nat.not_lt_zero _)
        subst ha
        have g0 := (hb.cell (p := ⟨b, off + k * 4, none⟩) hbw).trans (hcell k hlt).1
        have g1 := (hb.cell (p := ⟨b, off + k * 4 + 1, none⟩) hbw).trans (hcell k hlt).2.1
        have g2 := (hb.cell (p := ⟨b, off + k * 4 + 2, none⟩) hbw).trans (hcell k hlt).2.2.1
        have g3 := (hb.cell (p := ⟨b, off + k * 4 + 3, none⟩) hbw).trans (hcell k hlt).2.2.2
        have hxs := hs k
        generalize hx : is.getD k l4z = x at *
        have HX : Hid (is.getD k l4z = x) := hx
        clear hx hcell
        go_wp2_with fail
        refine (c70 x r wr hxs hr0 hr1).mono ?_
        rintro e w1 ⟨⟨r1, rfl, hr⟩, hb1⟩
        have hB1 : Below w.heap.size w w1 := hb.trans (hb1.mono hb.size)
        by_cases hneg : r1 < 0
        · clear hr
          go_wp2
          go_ret
          exact ⟨⟨-1, rfl, fun h => by omega⟩, hB1⟩
        · have hr' := hr (by omega)
          have hsm' : Hid (∀ i, i < k + 1 → (is.getD i l4z).le 1048576) := by
            intro i h
            rcases Nat.lt_or_ge i k with h1 | h1
            · exact hsm.out i h1
            · obtain rfl : i = k := by omega
              rw [HX.out]; exact hr'.1
          clear hr
          go_wp2
          go_roundw
          case rel => exact ⟨k + 1, _, by omega, by go_num, rfl, by omega, hr'.2, hsm', hB1⟩
          case measure => simp [intOf]; omega
      · have hsm' : Hid (∀ i, (is.getD i l4z).le 1048576) := getD_smallL (fun i h => hsm.out i (by omega))
        go_wp2
        go_ret
        exact ⟨⟨r, rfl, fun _ => ⟨by omega, hsm'.out, hr1⟩⟩, hb⟩

set_option maxHeartbeats 1000000 in
theorem c86 (x : L4) (w : World) :
    Calls Tryz.prog 86 #[.agg #[.bool x.has, .string x.nm, .int .i64 x.cd, .string x.tx], .agg #[.bool x.has, .string x.nm, .int .i64 x.cd, .string x.tx]] w fun e w' => e = .returned (.bool true) ∧ Below w.heap.size w w' := by
  go_enter Tryz.func86, Tryz.ntmps86
  go_wp2_with fail
  have hB : ∀ o1 o2, Below w.heap.size w ((w.alloc o1).alloc o2) := fun o1 o2 => ((Below.refl _ _).alloc (Nat.le_refl _) _).alloc (by simp) _
  refine (c87 x.cd x.tx _).mono ?_
  rintro e w1 ⟨rfl, hb1⟩
  go_wp2
  go_ret
  exact ⟨rfl, (hB _ _).trans (hb1.mono (by simp; omega))⟩
end Go.Proofs.YtdcgjdgpiogdaaaGreatDoor
