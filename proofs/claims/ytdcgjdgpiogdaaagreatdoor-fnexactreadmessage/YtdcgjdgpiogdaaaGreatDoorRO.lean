import Derived.Test.YtdcgjdgpiogdaaaGreatDoorRT
namespace Go.Proofs.YtdcgjdgpiogdaaaGreatDoor
open Go.RowKit
theorem lkown_bel {w w' : World} {B : Nat} {ao : Option Addr} {is : List L4} (h : LkOwn w B ao is) (hb : Below w.heap.size w w') : LkOwn w' B ao is :=
  ⟨lks_below h.at' hb, h.own.imp id fun ⟨g, h1, h2, h3⟩ => ⟨g, h1, h2, h3.below hb⟩⟩
theorem rest_lt {l : List UInt8} (h : (32 : UInt8) ∈ l) : (restOf l).length < l.length := by
  have := congrArg List.length (word_parts h).1
  rw [List.length_append, List.length_cons] at this
  omega
theorem parts_stable (k : Nat) : ∀ (l : List UInt8) (n m : Nat), l.length ≤ k → l.length ≤ n → l.length ≤ m → parts1 l n = parts1 l m := by
  induction k with
  | zero =>
    intro l n m h _ _
    obtain rfl : l = [] := List.length_eq_zero_iff.1 (by omega)
    rw [parts_no n (by simp), parts_no m (by simp)]
  | succ k ih =>
    intro l n m h hn hm
    by_cases h32 : (32 : UInt8) ∈ l
    · have hl := rest_lt h32
      obtain ⟨n, rfl⟩ : ∃ n', n = n' + 1 := ⟨n - 1, by omega⟩
      obtain ⟨m, rfl⟩ : ∃ m', m = m' + 1 := ⟨m - 1, by omega⟩
      rw [parts_yes n h32, parts_yes m h32, ih _ n m (by omega) (by omega) (by omega)]
    · rw [parts_no n h32, parts_no m h32]
theorem parts_min4 (l : List UInt8) : parts1 l (min 4 (l.length + 1) - 1) = parts1 l 3 := by
  rcases Nat.lt_or_ge l.length 3 with h | h
  · exact parts_stable l.length l _ _ (Nat.le_refl _) (by omega) (by omega)
  · have : min 4 (l.length + 1) = 4 := by omega
    rw [this]
theorem c102f (l : List UInt8) (w : World) (hs : l.length ≤ 1048700) (hm : MaxAt w) :
    Calls Tryz.prog 102 #[.string (ofL l), .string ⟨#[32]⟩, .int .i64 4] w fun e w' => (∃ cap, e = .returned (.slice (some ⟨w.heap.size, 0, none⟩) (parts1 l 3).length cap) ∧ (parts1 l 3).length ≤ cap ∧ LinesAt w' w.heap.size (parts1 l 3)) ∧ Below w.heap.size w w' := by
  obtain ⟨_, m, hm⟩ := hm
  refine (Tryz.strings_SplitN (ofL l) ⟨#[32]⟩ 4 m w (by rw [ofL_size]; omega) hm (by decide) (by omega) (by omega)).mono ?_
  have hd : Lib.splitB ⟨#[32]⟩ 0 (min 4 ((ofL l).size + 1) - 1) (ofL l) = (parts1 l 3).map ofL := by
    refine toL_inj ?_
    rw [Lib.splitB_data ⟨#[32]⟩ 0 (min 4 ((ofL l).size + 1) - 1) (ofL l), ofL_size, ← parts_min4 l]
    rfl
  have hlen : (parts1 l 3).length ≤ min 4 ((ofL l).size + 1) := by
    have := Lib.splitB_length_le ⟨#[32]⟩ 0 (min 4 ((ofL l).size + 1) - 1) (ofL l)
    rw [hd, List.length_map] at this; omega
  rintro e w' ⟨rfl, rfl⟩
  rw [hd]
  refine ⟨⟨_, by rw [List.length_map], hlen, by simp, fun i hi => ?_⟩, (Below.refl _ _).alloc (Nat.le_refl _) _⟩
  have hc : (Lib.cellsOf ((parts1 l 3).map ofL) (min 4 ((ofL l).size + 1)))[i]? = some (.string (ofL ((parts1 l 3).getD i []))) := by
    unfold Lib.cellsOf
    rw [List.getElem?_toArray, List.getElem?_append_left (by simpa using hi)]
    simp [hi]
  rw [← hc]
  simp
set_option maxHeartbeats 8000000 in
set_option maxRecDepth 100000 in
theorem c78 (f : List UInt8) (b : List (List UInt8)) (g o cp : Nat) (w : World) (hs : f.length ≤ 16000) (hmx : MaxAt w) (hb : b.length ≤ 16001) (hln : LinesIn w g o b) (hbs : ∀ i, i < b.length → (b.getD i []).length ≤ 16000) :
    Calls Tryz.prog 78 #[.string (ofL f), .slice (some ⟨g, o, none⟩) b.length cp] w fun e w' => IsRd 1 f b w w' e ∧ Below w.heap.size w w' := by
  have hB0 : Below w.heap.size w (w.alloc (.cells zG.toArray 41)) := (Below.refl _ _).alloc (Nat.le_refl _) _
  have HL : Hid (LinesIn w g o b) := hln
  have HBS : Hid (∀ i, i < b.length → (b.getD i []).length ≤ 16000) := hbs
  clear hln hbs
  go_enter Tryz.func78, Tryz.ntmps78
  go_wp2_with fail
  refine (c102f f _ (by omega) (max_below hmx hB0)).mono ?_
  rintro e w1 ⟨⟨cap, rfl, hcap, hln1⟩, hb1⟩
  have hx1 : Below (w.heap.size + 1) (w.alloc (.cells zG.toArray 41)) w1 := hb1.mono (by simp)
  have hz1 : (w.alloc (.cells zG.toArray 41)).heap.size = w.heap.size + 1 := by simp
  rw [hz1] at hln1
  clear hb1
  obtain ⟨bA, oA⟩ := blk_keep (vs := zG) hx1
  have hB1 : Below w.heap.size w w1 := hB0.trans (hx1.mono (by omega))
  have hS := blk_some bA zG rfl
  by_cases hlen : (parts1 f 3).length = 4
  · have hp := (four_parts hlen).1
    have HLN : Hid ((parts1 f 3).length = 4) := hlen
    have r1 := rest_small f
    have r2 := rest_small (restOf f)
    have r3 := rest_small (restOf (restOf f))
    rw [hp] at hln1 hcap ⊢
    have hYes := fun km ls hn hm hl => rdOffer_yes (f := f) (b := b) (km := km) (ls := ls) hlen hn hm hl
    have hNo := fun km ls ok1 ok2 hm hl h => rdOffer_no (f := f) (b := b) (km := km) (ls := ls) (ok1 := ok1) (ok2 := ok2) hm hl h g16z
    clear hlen hp HLN
    generalize wordOf f = p0 at *
    generalize wordOf (restOf f) = p1 at *
    generalize wordOf (restOf (restOf f)) = p2 at *
    generalize restOf (restOf (restOf f)) = p3 at *
    simp only [List.length_cons, List.length_nil] at hcap ⊢
    have hL3 : LinesIn w1 (w.heap.size + 1) 0 [p0, p1, p2] := ⟨hln1.1, fun i hi => by
      have h := hln1.2 i (by simp at hi ⊢; omega)
      rw [Nat.zero_add, h]
      match i, hi with
      | 0, _ => rfl
      | 1, _ => rfl
      | 2, _ => rfl⟩
    have hp3 : w1.cell? ⟨w.heap.size + 1, 3, none⟩ = some (.string (ofL p3)) := hln1.2 3 (by simp)
    clear hln1
    go_wp2_with fail
    refine (c103 (w.heap.size + 1) 0 cap [p0, p1, p2] _ hL3 (fun i hi => by
      match i, hi with
      | 0, _ => show p0.length ≤ _; omega
      | 1, _ => show p1.length ≤ _; omega
      | 2, _ => show p2.length ≤ _; omega) (by simp) (by simp)).mono ?_
    rintro e w2 ⟨hr2, hb2⟩
    have hp3' := (hb2.cell (p := ⟨w.heap.size + 1, 3, none⟩) hL3.1).trans hp3
    have hlt2 : w.heap.size + 1 < w2.heap.size := Nat.lt_of_lt_of_le hL3.1 hb2.size
    have hx2 := hx1.trans (hb2.mono (by have h := hx1.size; simp at h; omega))
    have hg2 : ∃ sv ok1, e = .returned (.tuple #[sv, .bool ok1]) ∧ ok1 = [p0, p1, p2].all (numM 1000) ∧ (ok1 = true → ∃ g1 cp1, sv = .slice (some ⟨g1, 0, none⟩) 3 cp1 ∧ (g1 < w2.heap.size ∧ w.heap.size < g1) ∧ w2.cell? ⟨g1, 0, none⟩ = some (.int .i64 (rnM 1000 p0)) ∧ w2.cell? ⟨g1, 1, none⟩ = some (.int .i64 (rnM 1000 p1)) ∧ w2.cell? ⟨g1, 2, none⟩ = some (.int .i64 (rnM 1000 p2))) := by
      rcases hr2 with ⟨rfl, hn⟩ | ⟨hn, g1, cp1, rfl, hgg, hgl, hcl⟩
      · exact ⟨_, _, rfl, hn.symm, fun h => by cases h⟩
      · exact ⟨_, _, rfl, hn.symm, fun _ => ⟨g1, cp1, rfl, ⟨hgl, by have := hL3.1; omega⟩, hcl 0 (by simp), hcl 1 (by simp), hcl 2 (by simp)⟩⟩
    obtain ⟨sv, ok1, rfl, hok1, hsv⟩ := hg2
    have HOK1 : Hid (ok1 = [p0, p1, p2].all (numM 1000)) := hok1
    have hB2 : Below w.heap.size w w2 := hB0.trans (hx2.mono (by omega))
    have hm2 : MaxAt w2 := max_below hmx hB2
    clear hr2 hL3 hp3 hb2 hok1
    go_wp2_with fail
    refine (c104 p3 _ (by omega) hm2).mono ?_
    rintro e w3 ⟨⟨km, ok2, rfl, hkm⟩, hb3⟩
    have hlt3 : w.heap.size + 1 < w3.heap.size := Nat.lt_of_lt_of_le hlt2 hb3.size
    have hx3 := hx2.trans (hb3.mono (by omega))
    have hB3 : Below w.heap.size w w3 := hB0.trans (hx3.mono (by omega))
    have hsv3 : ok1 = true → ∃ g1 cp1, sv = .slice (some ⟨g1, 0, none⟩) 3 cp1 ∧ (g1 < w3.heap.size ∧ w.heap.size < g1) ∧ w3.cell? ⟨g1, 0, none⟩ = some (.int .i64 (rnM 1000 p0)) ∧ w3.cell? ⟨g1, 1, none⟩ = some (.int .i64 (rnM 1000 p1)) ∧ w3.cell? ⟨g1, 2, none⟩ = some (.int .i64 (rnM 1000 p2)) := fun h => by
      obtain ⟨g1, cp1, e1, e2, e3, e4, e5⟩ := hsv h
      exact ⟨g1, cp1, e1, ⟨Nat.lt_of_lt_of_le e2.1 hb3.size, e2.2⟩, (hb3.cell (p := ⟨g1, 0, none⟩) e2.1).trans e3, (hb3.cell (p := ⟨g1, 1, none⟩) e2.1).trans e4, (hb3.cell (p := ⟨g1, 2, none⟩) e2.1).trans e5⟩
    clear hp3' hsv hb3
    unfold M3.v
    go_wp2_with fail
    have hB3a := fun ob => hB3.alloc hB3.size ob
    refine (c105 g o cp b _ (max_below hmx (hB3a _)) (linesIn_below HL.out (hB3a _)) HBS.out hb).mono ?_
    rintro e w4 ⟨⟨ls, ok3, ao, c, rfl, hrl, hlle, hlc, hlk⟩, hb4⟩
    have hz3a : (w3.alloc (.cells #[.string km.nm, .string km.tl, .string km.ar] 35)).heap.size = w3.heap.size + 1 := by simp
    have hx4 : Below (w.heap.size + 1) (w.alloc (.cells zG.toArray 41)) w4 := (hx3.alloc (by omega) _).trans (hb4.mono (by rw [hz3a]; omega))
    have hlt4 : w3.heap.size < w4.heap.size := by have h := hb4.size; rw [hz3a] at h; omega
    have hB4 : Below w.heap.size w w4 := hB0.trans (hx4.mono (by omega))
    have m0 : w4.cell? ⟨w3.heap.size, 0, none⟩ = some (.string km.nm) := (hb4.cell (p := ⟨w3.heap.size, 0, none⟩) (by rw [hz3a]; exact Nat.lt_succ_self _)).trans (by simp [go_sem])
    have m1 : w4.cell? ⟨w3.heap.size, 1, none⟩ = some (.string km.tl) := (hb4.cell (p := ⟨w3.heap.size, 1, none⟩) (by rw [hz3a]; exact Nat.lt_succ_self _)).trans (by simp [go_sem])
    have m2 : w4.cell? ⟨w3.heap.size, 2, none⟩ = some (.string km.ar) := (hb4.cell (p := ⟨w3.heap.size, 2, none⟩) (by rw [hz3a]; exact Nat.lt_succ_self _)).trans (by simp [go_sem])
    have hN : (ok1 = false ∨ ok2 = false ∨ ok3 = false) → Hid (RdMsg 1 f b g16z false) := fun h => hNo km ls ok2 ok3 hkm hrl (by rw [← HOK1.out]; exact h)
    have hY : ok1 = true → ok2 = true → ok3 = true → Hid (RdMsg 1 f b (offerG (rnM 1000 p0) (rnM 1000 p1) (rnM 1000 p2) km ls) true) := fun h1 h2 h3 => by
      subst h2 h3
      exact hYes km ls (by rw [← HOK1.out]; exact h1) hkm hrl
    have hKS : ok2 = true → km.le 1048576 := fun h => by
      have a := okM_len (hkm.1 h).1
      simp only [Array.length_toList, ByteArray.size_data] at a
      exact ⟨by omega, by omega, by omega⟩
    have hlk1 : LkOwn w4 (w.heap.size + 1) ao ls := hlk.mono (by rw [hz3a]; omega)
    clear hkm hrl hYes hNo hlk
    clear bA oA hS
    obtain ⟨bA, oA⟩ := blk_keep (vs := zG) hx4
    have hS := blk_some bA zG rfl
    cases ok1
    · have HN := hN (.inl rfl)
      clear hN hY
      go_wp2_with (refine wpList_store_blk rfl 41 (.tmp 4) (.tmp 47) rfl w.heap.size 0 rfl zG rfl hS oA (by simp [zG, Value.oneCell']) (by kernel_rfl) rfl ?_)
      exact fin_no Tryz.results78 HN.out rfl rfl rfl bA hB4
    · cases ok2
      · have HN := hN (.inr (.inl rfl))
        clear hN hY
        go_wp2_with (refine wpList_store_blk rfl 41 (.tmp 4) (.tmp 47) rfl w.heap.size 0 rfl zG rfl hS oA (by simp [zG, Value.oneCell']) (by kernel_rfl) rfl ?_)
        exact fin_no Tryz.results78 HN.out rfl rfl rfl bA hB4
      · cases ok3
        · have HN := hN (.inr (.inr rfl))
          clear hN hY
          go_wp2_with (refine wpList_store_blk rfl 41 (.tmp 4) (.tmp 47) rfl w.heap.size 0 rfl zG rfl hS oA (by simp [zG, Value.oneCell']) (by kernel_rfl) rfl ?_)
          exact fin_no Tryz.results78 HN.out rfl rfl rfl bA hB4
        · have HN := hY rfl rfl rfl
          have HKS := hKS rfl
          clear hN hY hKS
          obtain ⟨g1, cp1, rfl, ⟨hg1, hg1b⟩, k0, k1, k2⟩ := hsv3 rfl
          have k0' := (hb4.cell (p := ⟨g1, 0, none⟩) (by rw [hz3a]; exact Nat.lt_succ_of_lt hg1)).trans (past (by exact hg1) k0 _)
          have k1' := (hb4.cell (p := ⟨g1, 1, none⟩) (by rw [hz3a]; exact Nat.lt_succ_of_lt hg1)).trans (past (by exact hg1) k1 _)
          have k2' := (hb4.cell (p := ⟨g1, 2, none⟩) (by rw [hz3a]; exact Nat.lt_succ_of_lt hg1)).trans (past (by exact hg1) k2 _)
          clear k0 k1 k2 hsv3 hb4
          go_wp2_with fail
          have HSS : Hid ((fun u => (u.cell? ⟨g1, 0, none⟩ = some (.int .i64 (rnM 1000 p0)) ∧ u.cell? ⟨g1, 1, none⟩ = some (.int .i64 (rnM 1000 p1)) ∧ u.cell? ⟨g1, 2, none⟩ = some (.int .i64 (rnM 1000 p2))) ∧ u.cell? ⟨w3.heap.size, 0, none⟩ = some (.string km.nm) ∧ u.cell? ⟨w3.heap.size, 1, none⟩ = some (.string km.tl) ∧ u.cell? ⟨w3.heap.size, 2, none⟩ = some (.string km.ar)) w4) := ⟨⟨k0', k1', k2'⟩, m0, m1, m2⟩
          refine wp_region_held_drew (S := (fun u => (u.cell? ⟨g1, 0, none⟩ = some (.int .i64 (rnM 1000 p0)) ∧ u.cell? ⟨g1, 1, none⟩ = some (.int .i64 (rnM 1000 p1)) ∧ u.cell? ⟨g1, 2, none⟩ = some (.int .i64 (rnM 1000 p2))) ∧ u.cell? ⟨w3.heap.size, 0, none⟩ = some (.string km.nm) ∧ u.cell? ⟨w3.heap.size, 1, none⟩ = some (.string km.tl) ∧ u.cell? ⟨w3.heap.size, 2, none⟩ = some (.string km.ar))) (by kernel_rfl) ?_ (fun hHeld => ?_)
          · exact HSS.out
          refine wpAnyH_take (i := 0) (oi := { dst := some 48, op := Op.move (Operand.tmp 7), type := 134, pos := "l7_mail.go:174", after := #[], guard := none }) (v := ?_) rfl (by kernel_rfl) (by kernel_rfl) (by kernel_rfl) (fun _ _ _ h => h) (Or.inl ⟨by rfl, ?_⟩) (by assumption) ?_
          rotate_left
          · intro wq hSw
            (try dsimp only at hSw)
            go_simp
            try with_reducible rfl
          try simp only [Act.put, List.setIfInBounds_toArray, List.set_cons_zero, List.set_cons_succ]
          refine wpAnyH_take (i := 1) (oi := { dst := some 49, op := Op.indexAddr 134 (Operand.tmp 48) (Operand.const (Value.int IntKind.i64 0)), type := 0, pos := "l7_mail.go:174", after := #[{ on := 0, ground := Ground.data }], guard := none }) (v := ?_) rfl (by kernel_rfl) (by kernel_rfl) (by kernel_rfl) (fun _ _ _ h => h) (Or.inl ⟨by rfl, ?_⟩) (by assumption) ?_
          rotate_left
          · intro wq hSw
            (try dsimp only at hSw)
            go_simp
            try with_reducible rfl
          try simp only [Act.put, List.setIfInBounds_toArray, List.set_cons_zero, List.set_cons_succ]
          refine wpAnyH_take (i := 2) (oi := { dst := some 50, op := Op.load 3 (Operand.tmp 49), type := 3, pos := "l7_mail.go:174", after := #[{ on := 1, ground := Ground.data }], guard := none }) (v := ?_) rfl (by kernel_rfl) (by kernel_rfl) (by kernel_rfl) (fun _ _ _ h => h) (Or.inl ⟨by rfl, ?_⟩) (by assumption) ?_
          rotate_left
          · intro wq hSw
            (try dsimp only at hSw)
            go_simp
            try with_reducible rfl
          try simp only [Act.put, List.setIfInBounds_toArray, List.set_cons_zero, List.set_cons_succ]
          refine wpAnyH_take (i := 3) (oi := { dst := some 51, op := Op.move (Operand.tmp 7), type := 134, pos := "l7_mail.go:174", after := #[], guard := none }) (v := ?_) rfl (by kernel_rfl) (by kernel_rfl) (by kernel_rfl) (fun _ _ _ h => h) (Or.inl ⟨by rfl, ?_⟩) (by assumption) ?_
          rotate_left
          · intro wq hSw
            (try dsimp only at hSw)
            go_simp
            try with_reducible rfl
          try simp only [Act.put, List.setIfInBounds_toArray, List.set_cons_zero, List.set_cons_succ]
          refine wpAnyH_take (i := 4) (oi := { dst := some 52, op := Op.indexAddr 134 (Operand.tmp 51) (Operand.const (Value.int IntKind.i64 1)), type := 0, pos := "l7_mail.go:174", after := #[{ on := 3, ground := Ground.data }], guard := none }) (v := ?_) rfl (by kernel_rfl) (by kernel_rfl) (by kernel_rfl) (fun _ _ _ h => h) (Or.inl ⟨by rfl, ?_⟩) (by assumption) ?_
          rotate_left
          · intro wq hSw
            (try dsimp only at hSw)
            go_simp
            try with_reducible rfl
          try simp only [Act.put, List.setIfInBounds_toArray, List.set_cons_zero, List.set_cons_succ]
          refine wpAnyH_take (i := 5) (oi := { dst := some 53, op := Op.load 3 (Operand.tmp 52), type := 3, pos := "l7_mail.go:174", after := #[{ on := 4, ground := Ground.data }], guard := none }) (v := ?_) rfl (by kernel_rfl) (by kernel_rfl) (by kernel_rfl) (fun _ _ _ h => h) (Or.inl ⟨by rfl, ?_⟩) (by assumption) ?_
          rotate_left
          · intro wq hSw
            (try dsimp only at hSw)
            go_simp
            try with_reducible rfl
          try simp only [Act.put, List.setIfInBounds_toArray, List.set_cons_zero, List.set_cons_succ]
          refine wpAnyH_take (i := 6) (oi := { dst := some 54, op := Op.move (Operand.tmp 7), type := 134, pos := "l7_mail.go:174", after := #[], guard := none }) (v := ?_) rfl (by kernel_rfl) (by kernel_rfl) (by kernel_rfl) (fun _ _ _ h => h) (Or.inl ⟨by rfl, ?_⟩) (by assumption) ?_
          rotate_left
          · intro wq hSw
            (try dsimp only at hSw)
            go_simp
            try with_reducible rfl
          try simp only [Act.put, List.setIfInBounds_toArray, List.set_cons_zero, List.set_cons_succ]
          refine wpAnyH_take (i := 7) (oi := { dst := some 55, op := Op.indexAddr 134 (Operand.tmp 54) (Operand.const (Value.int IntKind.i64 2)), type := 0, pos := "l7_mail.go:174", after := #[{ on := 6, ground := Ground.data }], guard := none }) (v := ?_) rfl (by kernel_rfl) (by kernel_rfl) (by kernel_rfl) (fun _ _ _ h => h) (Or.inl ⟨by rfl, ?_⟩) (by assumption) ?_
          rotate_left
          · intro wq hSw
            (try dsimp only at hSw)
            go_simp
            try with_reducible rfl
          try simp only [Act.put, List.setIfInBounds_toArray, List.set_cons_zero, List.set_cons_succ]
          refine wpAnyH_take (i := 8) (oi := { dst := some 56, op := Op.load 3 (Operand.tmp 55), type := 3, pos := "l7_mail.go:174", after := #[{ on := 7, ground := Ground.data }], guard := none }) (v := ?_) rfl (by kernel_rfl) (by kernel_rfl) (by kernel_rfl) (fun _ _ _ h => h) (Or.inl ⟨by rfl, ?_⟩) (by assumption) ?_
          rotate_left
          · intro wq hSw
            (try dsimp only at hSw)
            go_simp
            try with_reducible rfl
          try simp only [Act.put, List.setIfInBounds_toArray, List.set_cons_zero, List.set_cons_succ]
          refine wpAnyH_take (i := 9) (oi := { dst := some 57, op := Op.load 35 (Operand.tmp 9), type := 35, pos := "l7_mail.go:174", after := #[], guard := none }) (v := ?_) rfl (by kernel_rfl) (by kernel_rfl) (by kernel_rfl) (fun _ _ _ h => h) (Or.inl ⟨by rfl, ?_⟩) (by assumption) ?_
          rotate_left
          · intro wq hSw
            (try dsimp only at hSw)
            go_simp
            try with_reducible rfl
          try simp only [Act.put, List.setIfInBounds_toArray, List.set_cons_zero, List.set_cons_succ]
          refine wpAnyH_take (i := 10) (oi := { dst := some 58, op := Op.move (Operand.tmp 11), type := 36, pos := "l7_mail.go:174", after := #[], guard := none }) (v := ?_) rfl (by kernel_rfl) (by kernel_rfl) (by kernel_rfl) (fun _ _ _ h => h) (Or.inl ⟨by rfl, ?_⟩) (by assumption) ?_
          rotate_left
          · intro wq hSw
            (try dsimp only at hSw)
            go_simp
            try with_reducible rfl
          try simp only [Act.put, List.setIfInBounds_toArray, List.set_cons_zero, List.set_cons_succ]
          refine wpAnyH_take (i := 11) (oi := { dst := some 59, op := Op.build 41 #[(0, Operand.const (Value.int IntKind.i64 1)), (1, Operand.tmp 50), (3, Operand.tmp 53), (4, Operand.tmp 56), (5, Operand.tmp 57), (6, Operand.tmp 58)], type := 41, pos := "l7_mail.go:174", after := #[{ on := 2, ground := Ground.data }, { on := 5, ground := Ground.data }, { on := 8, ground := Ground.data }, { on := 9, ground := Ground.data }, { on := 10, ground := Ground.data }], guard := none }) (v := ?_) rfl (by kernel_rfl) (by kernel_rfl) (by kernel_rfl) (fun _ _ _ h => h) (Or.inl ⟨by rfl, ?_⟩) (by assumption) ?_
          rotate_left
          · intro wq hSw
            (try dsimp only at hSw)
            go_simp
            try with_reducible rfl
          try simp only [Act.put, List.setIfInBounds_toArray, List.set_cons_zero, List.set_cons_succ]
          refine wpAnyH_ready (rs := [12]) (by kernel_rfl) (by simp) ?_
          refine AllReadyH.cons (o := { dst := none, op := Op.store 41 (Operand.tmp 4) (Operand.tmp 59), type := 0, pos := "l7_mail.go:174", after := #[{ on := 11, ground := Ground.data }, { on := 0, ground := Ground.phase }, { on := 1, ground := Ground.phase }, { on := 2, ground := Ground.phase }, { on := 3, ground := Ground.phase }, { on := 4, ground := Ground.phase }, { on := 5, ground := Ground.phase }, { on := 6, ground := Ground.phase }, { on := 7, ground := Ground.phase }, { on := 8, ground := Ground.phase }, { on := 9, ground := Ground.phase }, { on := 10, ground := Ground.phase }, { on := 11, ground := Ground.phase }], guard := none }) rfl (fun K hK => ?_) AllReadyH.nil
          refine step_store_blk rfl 41 (.tmp 4) (.tmp 59) rfl w.heap.size 0 rfl ((offerG (rnM 1000 p0) (rnM 1000 p1) (rnM 1000 p2) km ls).c ao c) rfl (blk_some (BlkAt.drewW bA) _ rfl) (OpnAt.drewW oA) (G16.c_one _ _ _) (by kernel_rfl) rfl ?_
          clear hHeld
          refine hK.out _ _ ?_ (fun hHeld => ?_)
          · exact ⟨⟨(cell_fill _ 0 ⟨g1, 0, none⟩ (by show g1 ≠ w.heap.size; omega)).trans (by simpa using HSS.out.1.1), (cell_fill _ 0 ⟨g1, 1, none⟩ (by show g1 ≠ w.heap.size; omega)).trans (by simpa using HSS.out.1.2.1), (cell_fill _ 0 ⟨g1, 2, none⟩ (by show g1 ≠ w.heap.size; omega)).trans (by simpa using HSS.out.1.2.2)⟩, (cell_fill _ 0 ⟨w3.heap.size, 0, none⟩ (by show w3.heap.size ≠ w.heap.size; omega)).trans (by simpa using HSS.out.2.1), (cell_fill _ 0 ⟨w3.heap.size, 1, none⟩ (by show w3.heap.size ≠ w.heap.size; omega)).trans (by simpa using HSS.out.2.2.1), (cell_fill _ 0 ⟨w3.heap.size, 2, none⟩ (by show w3.heap.size ≠ w.heap.size; omega)).trans (by simpa using HSS.out.2.2.2)⟩
          clear hK K
          try simp only [Act.put, List.setIfInBounds_toArray, List.set_cons_zero, List.set_cons_succ]
          refine wpAnyH_take (i := 13) (oi := { dst := some 5, op := Op.assign (Operand.const (Value.bool true)), type := 4, pos := "l7_mail.go:174", after := #[{ on := 12, ground := Ground.chain }, { on := 0, ground := Ground.phase }, { on := 1, ground := Ground.phase }, { on := 2, ground := Ground.phase }, { on := 3, ground := Ground.phase }, { on := 4, ground := Ground.phase }, { on := 5, ground := Ground.phase }, { on := 6, ground := Ground.phase }, { on := 7, ground := Ground.phase }, { on := 8, ground := Ground.phase }, { on := 9, ground := Ground.phase }, { on := 10, ground := Ground.phase }, { on := 11, ground := Ground.phase }, { on := 12, ground := Ground.phase }], guard := none }) (v := ?_) rfl (by kernel_rfl) (by kernel_rfl) (by kernel_rfl) (fun _ _ _ h => h) (Or.inl ⟨by rfl, ?_⟩) (by assumption) ?_
          rotate_left
          · intro wq hSw
            (try dsimp only at hSw)
            go_simp
            try with_reducible rfl
          try simp only [Act.put, List.setIfInBounds_toArray, List.set_cons_zero, List.set_cons_succ]
          refine wpAnyH_done (by kernel_rfl) ?_ _

          clear hHeld
          go_wp2
          exact fin_yes (offerG (rnM 1000 p0) (rnM 1000 p1) (rnM 1000 p2) km ls) ao c Tryz.results78 HN.out rfl ⟨HKS, ⟨by show ls.length ≤ 1048576; omega, hlle⟩, ⟨Nat.zero_le _, Nat.zero_le _⟩⟩ (lkown_bel hlk1 (below_drewN 1)) rfl rfl rfl (BlkAt.drewW bA) hB4.drew
  · have HN : Hid (RdMsg 1 f b g16z false) := rdOffer_len hlen _
    clear hln1
    generalize (parts1 f 3).length = n at *
    go_wp2_with (refine wpList_store_blk rfl 41 (.tmp 4) (.tmp 18) rfl w.heap.size 0 rfl zG rfl hS oA (by simp [zG, Value.oneCell']) (by kernel_rfl) rfl ?_)
    exact fin_no Tryz.results78 HN.out rfl rfl rfl bA hB1
end Go.Proofs.YtdcgjdgpiogdaaaGreatDoor
