import Derived.Test.YtejlfpolnddfdaaDoorG45
import Derived.Test.YtejlfpolnddfdaaDoorG50
import Derived.Deep.RegionHeld3
import Derived.Deep.Heap
namespace Go.Proofs.YtejlfpolnddfdaaDoor
open Go.RowKit
set_option linter.unusedVariables false
/-- A look read loosely. -/
def LsLk (l : List UInt8) (x : L4) (ok : Bool) : Prop := (∀ y, LkOk y → l = lookB y → ok = true ∧ x = y) ∧ (isW l = false → ok = false)
def Is13 (l : List UInt8) (e : Ending) : Prop := ∃ (x : L4) (ok : Bool), e = .returned (.tuple #[x.v, .bool ok]) ∧ LsLk l x ok ∧ x.le 1048576
theorem lsk_no {l : List UInt8} (h : isW l = false) (x : L4) : LsLk l x false := by
  refine ⟨fun y hy e => ?_, fun _ => rfl⟩
  obtain ⟨a, _⟩ := look_parts hy.1
  rw [← e] at a
  rw [(word_isW a).1] at h; cases h
theorem lsk_yes {l : List UInt8} {c : Int} {t : ByteArray} (h : isW l = true) (hr : LsRes (restOf (restOf l)) c t) : LsLk l ⟨hasW l, ofL (wordOf (restOf l)), c, t⟩ true := by
  constructor
  · intro y hy e
    obtain ⟨a, b, d⟩ := look_parts hy.1
    rw [← e] at a b d
    obtain ⟨h1, h2⟩ := hr _ _ (lk_code hy).1 (lk_code hy).2 d
    refine ⟨rfl, ?_⟩
    rw [(word_isW a).2, b, h1, h2]
    rfl
  · intro e; rw [h] at e; cases e
set_option maxHeartbeats 4000000 in
set_option maxRecDepth 100000 in
theorem c13g (l : List UInt8) (w : World) (hs : l.length ≤ 16000) :
    Calls Tryd.prog 13 #[.string (ofL l)] w fun e w' => Is13 l e ∧ Below w.heap.size w w' := by
  have hB0 : Below w.heap.size w (w.alloc (.cells #[.bool false, .string ⟨#[]⟩, .int .i64 0, .string ⟨#[]⟩] 43)) := (Below.refl _ _).alloc (Nat.le_refl _) _
  have hr := rest_small l
  have hr2 := rest_small (restOf l)
  have h1 := has_eq l
  have h2 := ask_eq l
  have hI : isW l = (hasW l || decide (wordOf l = [97, 115, 107])) := rfl
  go_enter Tryd.func13, Tryd.ntmps13
  go_wp2_with fail
  refine (c10o l _ (by omega) 2 (by omega) (by omega)).mono ?_
  rintro e w1 ⟨⟨g, cp, rfl, hg0, hln⟩, hb1⟩
  have c0 : w1.cell? ⟨g, 0, none⟩ = some (.string (ofL (wordOf l))) := hln.2 0 (by simp [wordsN])
  have c1 : w1.cell? ⟨g, 1, none⟩ = some (.string (ofL (wordOf (restOf l)))) := hln.2 1 (by simp [wordsN])
  have hg1 := hln.1
  have hx1 : Below (w.heap.size + 1) (w.alloc (.cells #[.bool false, .string ⟨#[]⟩, .int .i64 0, .string ⟨#[]⟩] 43)) w1 := by simpa using hb1
  have hg2 : w.heap.size < g := by have h := hg0; simp at h; omega
  have hB1 : Below w.heap.size w w1 := hB0.trans (hx1.mono (by omega))
  clear hb1 hln hg0
  obtain ⟨bA, oA⟩ := blk_keep (vs := [.bool false, .string ⟨#[]⟩, .int .i64 0, .string ⟨#[]⟩]) hx1
  have HNo : isW l = false → Hid (Is13 l (.returned (.tuple #[.agg #[.bool false, .string ⟨#[]⟩, .int .i64 0, .string ⟨#[]⟩], .bool false]))) := fun h => ⟨l4z, false, rfl, lsk_no h _, ⟨Nat.zero_le _, Nat.zero_le _⟩⟩
  have HYes : isW l = true → ∀ c t, LsRes (restOf (restOf l)) c t → t.size ≤ 1048576 → Hid (Is13 l (.returned (.tuple #[.agg #[.bool (hasW l), .string (ofL (wordOf (restOf l))), .int .i64 c, .string t], .bool true]))) := fun h c t hq ht => ⟨⟨hasW l, ofL (wordOf (restOf l)), c, t⟩, true, rfl, lsk_yes h hq, ⟨by show (ofL (wordOf (restOf l))).size ≤ 1048576; rw [ofL_size]; omega, ht⟩⟩
  have h50 := c14 (restOf (restOf l))
  have hrN : ofL (restN l 2) = ofL (restOf (restOf l)) := rfl
  rw [hrN]
  have hlen : (restOf (restOf l)).length ≤ 16000 := by omega
  clear hrN
  generalize restOf (restOf l) = R at *
  generalize ofL (wordOf (restOf l)) = B at *
  generalize decide (wordOf l = [97, 115, 107]) = a at *
  generalize hasW l = h at *
  generalize isW l = i at *
  generalize ofL (wordOf l) = s at *
  have hz1 : w.heap.size < w1.heap.size := by have h := hx1.size; simp at h; omega
  subst hI
  clear hr hr2
  cases h
  · cases a
    · have HI := HNo rfl
      clear HNo HYes h50
      go_wp2_with (refine wpList_store_blk rfl 43 (.tmp 2) (.tmp 21) rfl w.heap.size 0 rfl [.bool false, .string ⟨#[]⟩, .int .i64 0, .string ⟨#[]⟩] rfl (blk_some bA _ rfl) oA (by simp [Value.oneCell']) (by kernel_rfl) rfl ?_)
      have FF := BlkAt.fill (B := w.heap.size) [.bool false, .string ⟨#[]⟩, .int .i64 0, .string ⟨#[]⟩] [] [.bool false, .string ⟨#[]⟩, .int .i64 0, .string ⟨#[]⟩] [] 0 bA rfl rfl
      refine bodyPost_ret (v := .tuple #[.agg #[.bool false, .string ⟨#[]⟩, .int .i64 0, .string ⟨#[]⟩], .bool false]) (by exact results_blk2 Tryd.results13 _ _ w.heap.size _ _ _ rfl rfl FF Tryd.underlying43 rfl (by kernel_rfl)) rfl ⟨HI.out, by exact below_fill (Nat.le_refl _) _ 0 hB1⟩
    · clear HNo
      go_wp2_with fail
      refine wp_region_held_drew (S := (fun u => u.cell? ⟨g, 0, none⟩ = some (.string s) ∧ u.cell? ⟨g, 1, none⟩ = some (.string B))) (by kernel_rfl) ?_ (fun hHeld => ?_)
      · exact ⟨c0, c1⟩
      refine wpAnyH_take (i := 0) (oi := { dst := some 22, op := Op.move (Operand.tmp 4), type := 36, pos := "l6_log.go:68", after := #[], guard := none }) (v := ?_) rfl (by kernel_rfl) (by kernel_rfl) (by kernel_rfl) (fun _ _ _ h => h) (Or.inl ⟨by rfl, ?_⟩) (by assumption) ?_
      rotate_left
      · intro wq hSw
        (try dsimp only at hSw)
        go_simp
        try with_reducible rfl
      try simp only [Act.put, List.setIfInBounds_toArray, List.set_cons_zero, List.set_cons_succ]
      refine wpAnyH_take (i := 1) (oi := { dst := some 23, op := Op.indexAddr 36 (Operand.tmp 22) (Operand.const (Value.int IntKind.i64 0)), type := 0, pos := "l6_log.go:68", after := #[{ on := 0, ground := Ground.data }], guard := none }) (v := ?_) rfl (by kernel_rfl) (by kernel_rfl) (by kernel_rfl) (fun _ _ _ h => h) (Or.inl ⟨by rfl, ?_⟩) (by assumption) ?_
      rotate_left
      · intro wq hSw
        (try dsimp only at hSw)
        go_simp
        try with_reducible rfl
      try simp only [Act.put, List.setIfInBounds_toArray, List.set_cons_zero, List.set_cons_succ]
      refine wpAnyH_take (i := 2) (oi := { dst := some 24, op := Op.load 9 (Operand.tmp 23), type := 9, pos := "l6_log.go:68", after := #[{ on := 1, ground := Ground.data }], guard := none }) (v := ?_) rfl (by kernel_rfl) (by kernel_rfl) (by kernel_rfl) (fun _ _ _ h => h) (Or.inl ⟨by rfl, ?_⟩) (by assumption) ?_
      rotate_left
      · intro wq hSw
        (try dsimp only at hSw)
        go_simp
        try with_reducible rfl
      try simp only [Act.put, List.setIfInBounds_toArray, List.set_cons_zero, List.set_cons_succ]
      refine wpAnyH_take (i := 3) (oi := { dst := some 25, op := Op.binOp BinOp.eql 9 (Operand.tmp 24) (Operand.const (Value.string { data := #[104, 97, 115] })) 9, type := 4, pos := "l6_log.go:68", after := #[{ on := 2, ground := Ground.data }], guard := none }) (v := ?_) rfl (by kernel_rfl) (by kernel_rfl) (by kernel_rfl) (fun _ _ _ h => h) (Or.inl ⟨by rfl, ?_⟩) (by assumption) ?_
      rotate_left
      · intro wq hSw
        (try dsimp only at hSw)
        go_simp
        try with_reducible rfl
      try simp only [Act.put, List.setIfInBounds_toArray, List.set_cons_zero, List.set_cons_succ]
      refine wpAnyH_take (i := 4) (oi := { dst := some 26, op := Op.move (Operand.tmp 4), type := 36, pos := "l6_log.go:68", after := #[], guard := none }) (v := ?_) rfl (by kernel_rfl) (by kernel_rfl) (by kernel_rfl) (fun _ _ _ h => h) (Or.inl ⟨by rfl, ?_⟩) (by assumption) ?_
      rotate_left
      · intro wq hSw
        (try dsimp only at hSw)
        go_simp
        try with_reducible rfl
      try simp only [Act.put, List.setIfInBounds_toArray, List.set_cons_zero, List.set_cons_succ]
      refine wpAnyH_take (i := 5) (oi := { dst := some 27, op := Op.indexAddr 36 (Operand.tmp 26) (Operand.const (Value.int IntKind.i64 1)), type := 0, pos := "l6_log.go:68", after := #[{ on := 4, ground := Ground.data }], guard := none }) (v := ?_) rfl (by kernel_rfl) (by kernel_rfl) (by kernel_rfl) (fun _ _ _ h => h) (Or.inl ⟨by rfl, ?_⟩) (by assumption) ?_
      rotate_left
      · intro wq hSw
        (try dsimp only at hSw)
        go_simp
        try with_reducible rfl
      try simp only [Act.put, List.setIfInBounds_toArray, List.set_cons_zero, List.set_cons_succ]
      refine wpAnyH_take (i := 6) (oi := { dst := some 28, op := Op.load 9 (Operand.tmp 27), type := 9, pos := "l6_log.go:68", after := #[{ on := 5, ground := Ground.data }], guard := none }) (v := ?_) rfl (by kernel_rfl) (by kernel_rfl) (by kernel_rfl) (fun _ _ _ h => h) (Or.inl ⟨by rfl, ?_⟩) (by assumption) ?_
      rotate_left
      · intro wq hSw
        (try dsimp only at hSw)
        go_simp
        try with_reducible rfl
      try simp only [Act.put, List.setIfInBounds_toArray, List.set_cons_zero, List.set_cons_succ]
      refine wpAnyH_take (i := 7) (oi := { dst := some 29, op := Op.move (Operand.tmp 5), type := 9, pos := "l6_log.go:68", after := #[], guard := none }) (v := ?_) rfl (by kernel_rfl) (by kernel_rfl) (by kernel_rfl) (fun _ _ _ h => h) (Or.inl ⟨by rfl, ?_⟩) (by assumption) ?_
      rotate_left
      · intro wq hSw
        (try dsimp only at hSw)
        go_simp
        try with_reducible rfl
      try simp only [Act.put, List.setIfInBounds_toArray, List.set_cons_zero, List.set_cons_succ]
      refine wpAnyH_ready (rs := [8]) (by kernel_rfl) (by simp) ?_
      refine AllReadyH.cons (o := { dst := some 30, op := Op.call { callee := Callee.value (Operand.func 14), args := #[Operand.tmp 29], argTypes := #[9] }, type := 28, pos := "l6_log.go:68", after := #[{ on := 7, ground := Ground.data }], guard := none }) rfl (fun K hK => ?_) AllReadyH.nil
      go_simp
      refine (h50 _ hlen).mono ?_
      rintro e w2 ⟨⟨c, t, rfl, hrr, hts⟩, hb2⟩
      have hbc : Below w1.heap.size w1 w2 := ((Below.refl _ _).drew).trans hb2
      have hA2 := bA.below hbc hz1
      have hO2 := oA.below hbc hz1
      have hB2 : Below w.heap.size w w2 := hB1.trans (hbc.mono hB1.size)
      have HI := HYes (by first | rfl | trivial) c t hrr hts
      have e0 := (hbc.cell (p := ⟨g, 0, none⟩) hg1).trans c0
      have e1 := (hbc.cell (p := ⟨g, 1, none⟩) hg1).trans c1
      clear HYes hrr hb2 hbc
      go_wp2_with fail
      clear hHeld
      refine hK.out _ _ ?_ (fun hHeld => ?_)
      · exact ⟨e0, e1⟩
      clear hK K
      try simp only [Act.put, List.setIfInBounds_toArray, List.set_cons_zero, List.set_cons_succ]
      refine wpAnyH_take (i := 9) (oi := { dst := some 31, op := Op.build 43 #[(0, Operand.tmp 25), (1, Operand.tmp 28), (2, Operand.tmp 30)], type := 43, pos := "l6_log.go:68", after := #[{ on := 3, ground := Ground.data }, { on := 6, ground := Ground.data }, { on := 8, ground := Ground.data }], guard := none }) (v := ?_) rfl (by kernel_rfl) (by kernel_rfl) (by kernel_rfl) (fun _ _ _ h => h) (Or.inl ⟨by rfl, ?_⟩) (by assumption) ?_
      rotate_left
      · intro wq hSw
        (try dsimp only at hSw)
        go_simp
        try with_reducible rfl
      try simp only [Act.put, List.setIfInBounds_toArray, List.set_cons_zero, List.set_cons_succ]
      refine wpAnyH_ready (rs := [10]) (by kernel_rfl) (by simp) ?_
      refine AllReadyH.cons (o := { dst := none, op := Op.store 43 (Operand.tmp 2) (Operand.tmp 31), type := 0, pos := "l6_log.go:68", after := #[{ on := 9, ground := Ground.data }, { on := 8, ground := Ground.chain }, { on := 0, ground := Ground.phase }, { on := 1, ground := Ground.phase }, { on := 2, ground := Ground.phase }, { on := 3, ground := Ground.phase }, { on := 4, ground := Ground.phase }, { on := 5, ground := Ground.phase }, { on := 6, ground := Ground.phase }, { on := 7, ground := Ground.phase }, { on := 8, ground := Ground.phase }, { on := 9, ground := Ground.phase }], guard := none }) rfl (fun K hK => ?_) AllReadyH.nil
      refine step_store_blk rfl 43 (.tmp 2) (.tmp 31) rfl w.heap.size 0 rfl [.bool false, .string B, .int .i64 c, .string t] rfl (blk_some hA2 _ rfl) hO2 (by simp [Value.oneCell']) (by kernel_rfl) rfl ?_
      clear hHeld
      refine hK.out _ _ ?_ (fun hHeld => ?_)
      · exact ⟨(cell_fill _ 0 ⟨g, 0, none⟩ (by show g ≠ w.heap.size; omega)).trans e0, (cell_fill _ 0 ⟨g, 1, none⟩ (by show g ≠ w.heap.size; omega)).trans e1⟩
      clear hK K
      try simp only [Act.put, List.setIfInBounds_toArray, List.set_cons_zero, List.set_cons_succ]
      refine wpAnyH_take (i := 11) (oi := { dst := some 3, op := Op.assign (Operand.const (Value.bool true)), type := 4, pos := "l6_log.go:68", after := #[{ on := 10, ground := Ground.chain }, { on := 0, ground := Ground.phase }, { on := 1, ground := Ground.phase }, { on := 2, ground := Ground.phase }, { on := 3, ground := Ground.phase }, { on := 4, ground := Ground.phase }, { on := 5, ground := Ground.phase }, { on := 6, ground := Ground.phase }, { on := 7, ground := Ground.phase }, { on := 8, ground := Ground.phase }, { on := 9, ground := Ground.phase }, { on := 10, ground := Ground.phase }], guard := none }) (v := ?_) rfl (by kernel_rfl) (by kernel_rfl) (by kernel_rfl) (fun _ _ _ h => h) (Or.inl ⟨by rfl, ?_⟩) (by assumption) ?_
      rotate_left
      · intro wq hSw
        (try dsimp only at hSw)
        go_simp
        try with_reducible rfl
      try simp only [Act.put, List.setIfInBounds_toArray, List.set_cons_zero, List.set_cons_succ]
      refine wpAnyH_done (by kernel_rfl) ?_ _
      clear hHeld
      go_wp2
      have FF := BlkAt.fill (B := w.heap.size) [.bool false, .string B, .int .i64 c, .string t] [] [.bool false, .string ⟨#[]⟩, .int .i64 0, .string ⟨#[]⟩] [] 0 hA2 rfl rfl
      refine bodyPost_ret (v := .tuple #[.agg #[.bool false, .string B, .int .i64 c, .string t], .bool true]) (by exact results_blk2 Tryd.results13 _ _ w.heap.size _ _ _ rfl rfl FF Tryd.underlying43 rfl (by kernel_rfl)) rfl ⟨HI.out, by exact below_fill (Nat.le_refl _) _ 0 hB2⟩
  · clear HNo
    cases a
    · go_wp2_with fail
      refine wp_region_held_drew (S := (fun u => u.cell? ⟨g, 0, none⟩ = some (.string s) ∧ u.cell? ⟨g, 1, none⟩ = some (.string B))) (by kernel_rfl) ?_ (fun hHeld => ?_)
      · exact ⟨c0, c1⟩
      refine wpAnyH_take (i := 0) (oi := { dst := some 22, op := Op.move (Operand.tmp 4), type := 36, pos := "l6_log.go:68", after := #[], guard := none }) (v := ?_) rfl (by kernel_rfl) (by kernel_rfl) (by kernel_rfl) (fun _ _ _ h => h) (Or.inl ⟨by rfl, ?_⟩) (by assumption) ?_
      rotate_left
      · intro wq hSw
        (try dsimp only at hSw)
        go_simp
        try with_reducible rfl
      try simp only [Act.put, List.setIfInBounds_toArray, List.set_cons_zero, List.set_cons_succ]
      refine wpAnyH_take (i := 1) (oi := { dst := some 23, op := Op.indexAddr 36 (Operand.tmp 22) (Operand.const (Value.int IntKind.i64 0)), type := 0, pos := "l6_log.go:68", after := #[{ on := 0, ground := Ground.data }], guard := none }) (v := ?_) rfl (by kernel_rfl) (by kernel_rfl) (by kernel_rfl) (fun _ _ _ h => h) (Or.inl ⟨by rfl, ?_⟩) (by assumption) ?_
      rotate_left
      · intro wq hSw
        (try dsimp only at hSw)
        go_simp
        try with_reducible rfl
      try simp only [Act.put, List.setIfInBounds_toArray, List.set_cons_zero, List.set_cons_succ]
      refine wpAnyH_take (i := 2) (oi := { dst := some 24, op := Op.load 9 (Operand.tmp 23), type := 9, pos := "l6_log.go:68", after := #[{ on := 1, ground := Ground.data }], guard := none }) (v := ?_) rfl (by kernel_rfl) (by kernel_rfl) (by kernel_rfl) (fun _ _ _ h => h) (Or.inl ⟨by rfl, ?_⟩) (by assumption) ?_
      rotate_left
      · intro wq hSw
        (try dsimp only at hSw)
        go_simp
        try with_reducible rfl
      try simp only [Act.put, List.setIfInBounds_toArray, List.set_cons_zero, List.set_cons_succ]
      refine wpAnyH_take (i := 3) (oi := { dst := some 25, op := Op.binOp BinOp.eql 9 (Operand.tmp 24) (Operand.const (Value.string { data := #[104, 97, 115] })) 9, type := 4, pos := "l6_log.go:68", after := #[{ on := 2, ground := Ground.data }], guard := none }) (v := ?_) rfl (by kernel_rfl) (by kernel_rfl) (by kernel_rfl) (fun _ _ _ h => h) (Or.inl ⟨by rfl, ?_⟩) (by assumption) ?_
      rotate_left
      · intro wq hSw
        (try dsimp only at hSw)
        go_simp
        try with_reducible rfl
      try simp only [Act.put, List.setIfInBounds_toArray, List.set_cons_zero, List.set_cons_succ]
      refine wpAnyH_take (i := 4) (oi := { dst := some 26, op := Op.move (Operand.tmp 4), type := 36, pos := "l6_log.go:68", after := #[], guard := none }) (v := ?_) rfl (by kernel_rfl) (by kernel_rfl) (by kernel_rfl) (fun _ _ _ h => h) (Or.inl ⟨by rfl, ?_⟩) (by assumption) ?_
      rotate_left
      · intro wq hSw
        (try dsimp only at hSw)
        go_simp
        try with_reducible rfl
      try simp only [Act.put, List.setIfInBounds_toArray, List.set_cons_zero, List.set_cons_succ]
      refine wpAnyH_take (i := 5) (oi := { dst := some 27, op := Op.indexAddr 36 (Operand.tmp 26) (Operand.const (Value.int IntKind.i64 1)), type := 0, pos := "l6_log.go:68", after := #[{ on := 4, ground := Ground.data }], guard := none }) (v := ?_) rfl (by kernel_rfl) (by kernel_rfl) (by kernel_rfl) (fun _ _ _ h => h) (Or.inl ⟨by rfl, ?_⟩) (by assumption) ?_
      rotate_left
      · intro wq hSw
        (try dsimp only at hSw)
        go_simp
        try with_reducible rfl
      try simp only [Act.put, List.setIfInBounds_toArray, List.set_cons_zero, List.set_cons_succ]
      refine wpAnyH_take (i := 6) (oi := { dst := some 28, op := Op.load 9 (Operand.tmp 27), type := 9, pos := "l6_log.go:68", after := #[{ on := 5, ground := Ground.data }], guard := none }) (v := ?_) rfl (by kernel_rfl) (by kernel_rfl) (by kernel_rfl) (fun _ _ _ h => h) (Or.inl ⟨by rfl, ?_⟩) (by assumption) ?_
      rotate_left
      · intro wq hSw
        (try dsimp only at hSw)
        go_simp
        try with_reducible rfl
      try simp only [Act.put, List.setIfInBounds_toArray, List.set_cons_zero, List.set_cons_succ]
      refine wpAnyH_take (i := 7) (oi := { dst := some 29, op := Op.move (Operand.tmp 5), type := 9, pos := "l6_log.go:68", after := #[], guard := none }) (v := ?_) rfl (by kernel_rfl) (by kernel_rfl) (by kernel_rfl) (fun _ _ _ h => h) (Or.inl ⟨by rfl, ?_⟩) (by assumption) ?_
      rotate_left
      · intro wq hSw
        (try dsimp only at hSw)
        go_simp
        try with_reducible rfl
      try simp only [Act.put, List.setIfInBounds_toArray, List.set_cons_zero, List.set_cons_succ]
      refine wpAnyH_ready (rs := [8]) (by kernel_rfl) (by simp) ?_
      refine AllReadyH.cons (o := { dst := some 30, op := Op.call { callee := Callee.value (Operand.func 14), args := #[Operand.tmp 29], argTypes := #[9] }, type := 28, pos := "l6_log.go:68", after := #[{ on := 7, ground := Ground.data }], guard := none }) rfl (fun K hK => ?_) AllReadyH.nil
      go_simp
      refine (h50 _ hlen).mono ?_
      rintro e w2 ⟨⟨c, t, rfl, hrr, hts⟩, hb2⟩
      have hbc : Below w1.heap.size w1 w2 := ((Below.refl _ _).drew).trans hb2
      have hA2 := bA.below hbc hz1
      have hO2 := oA.below hbc hz1
      have hB2 : Below w.heap.size w w2 := hB1.trans (hbc.mono hB1.size)
      have HI := HYes (by first | rfl | trivial) c t hrr hts
      have e0 := (hbc.cell (p := ⟨g, 0, none⟩) hg1).trans c0
      have e1 := (hbc.cell (p := ⟨g, 1, none⟩) hg1).trans c1
      clear HYes hrr hb2 hbc
      go_wp2_with fail
      clear hHeld
      refine hK.out _ _ ?_ (fun hHeld => ?_)
      · exact ⟨e0, e1⟩
      clear hK K
      try simp only [Act.put, List.setIfInBounds_toArray, List.set_cons_zero, List.set_cons_succ]
      refine wpAnyH_take (i := 9) (oi := { dst := some 31, op := Op.build 43 #[(0, Operand.tmp 25), (1, Operand.tmp 28), (2, Operand.tmp 30)], type := 43, pos := "l6_log.go:68", after := #[{ on := 3, ground := Ground.data }, { on := 6, ground := Ground.data }, { on := 8, ground := Ground.data }], guard := none }) (v := ?_) rfl (by kernel_rfl) (by kernel_rfl) (by kernel_rfl) (fun _ _ _ h => h) (Or.inl ⟨by rfl, ?_⟩) (by assumption) ?_
      rotate_left
      · intro wq hSw
        (try dsimp only at hSw)
        go_simp
        try with_reducible rfl
      try simp only [Act.put, List.setIfInBounds_toArray, List.set_cons_zero, List.set_cons_succ]
      refine wpAnyH_ready (rs := [10]) (by kernel_rfl) (by simp) ?_
      refine AllReadyH.cons (o := { dst := none, op := Op.store 43 (Operand.tmp 2) (Operand.tmp 31), type := 0, pos := "l6_log.go:68", after := #[{ on := 9, ground := Ground.data }, { on := 8, ground := Ground.chain }, { on := 0, ground := Ground.phase }, { on := 1, ground := Ground.phase }, { on := 2, ground := Ground.phase }, { on := 3, ground := Ground.phase }, { on := 4, ground := Ground.phase }, { on := 5, ground := Ground.phase }, { on := 6, ground := Ground.phase }, { on := 7, ground := Ground.phase }, { on := 8, ground := Ground.phase }, { on := 9, ground := Ground.phase }], guard := none }) rfl (fun K hK => ?_) AllReadyH.nil
      refine step_store_blk rfl 43 (.tmp 2) (.tmp 31) rfl w.heap.size 0 rfl [.bool true, .string B, .int .i64 c, .string t] rfl (blk_some hA2 _ rfl) hO2 (by simp [Value.oneCell']) (by kernel_rfl) rfl ?_
      clear hHeld
      refine hK.out _ _ ?_ (fun hHeld => ?_)
      · exact ⟨(cell_fill _ 0 ⟨g, 0, none⟩ (by show g ≠ w.heap.size; omega)).trans e0, (cell_fill _ 0 ⟨g, 1, none⟩ (by show g ≠ w.heap.size; omega)).trans e1⟩
      clear hK K
      try simp only [Act.put, List.setIfInBounds_toArray, List.set_cons_zero, List.set_cons_succ]
      refine wpAnyH_take (i := 11) (oi := { dst := some 3, op := Op.assign (Operand.const (Value.bool true)), type := 4, pos := "l6_log.go:68", after := #[{ on := 10, ground := Ground.chain }, { on := 0, ground := Ground.phase }, { on := 1, ground := Ground.phase }, { on := 2, ground := Ground.phase }, { on := 3, ground := Ground.phase }, { on := 4, ground := Ground.phase }, { on := 5, ground := Ground.phase }, { on := 6, ground := Ground.phase }, { on := 7, ground := Ground.phase }, { on := 8, ground := Ground.phase }, { on := 9, ground := Ground.phase }, { on := 10, ground := Ground.phase }], guard := none }) (v := ?_) rfl (by kernel_rfl) (by kernel_rfl) (by kernel_rfl) (fun _ _ _ h => h) (Or.inl ⟨by rfl, ?_⟩) (by assumption) ?_
      rotate_left
      · intro wq hSw
        (try dsimp only at hSw)
        go_simp
        try with_reducible rfl
      try simp only [Act.put, List.setIfInBounds_toArray, List.set_cons_zero, List.set_cons_succ]
      refine wpAnyH_done (by kernel_rfl) ?_ _
      clear hHeld
      go_wp2
      have FF := BlkAt.fill (B := w.heap.size) [.bool true, .string B, .int .i64 c, .string t] [] [.bool false, .string ⟨#[]⟩, .int .i64 0, .string ⟨#[]⟩] [] 0 hA2 rfl rfl
      refine bodyPost_ret (v := .tuple #[.agg #[.bool true, .string B, .int .i64 c, .string t], .bool true]) (by exact results_blk2 Tryd.results13 _ _ w.heap.size _ _ _ rfl rfl FF Tryd.underlying43 rfl (by kernel_rfl)) rfl ⟨HI.out, by exact below_fill (Nat.le_refl _) _ 0 hB2⟩
    · go_wp2_with fail
      refine wp_region_held_drew (S := (fun u => u.cell? ⟨g, 0, none⟩ = some (.string s) ∧ u.cell? ⟨g, 1, none⟩ = some (.string B))) (by kernel_rfl) ?_ (fun hHeld => ?_)
      · exact ⟨c0, c1⟩
      refine wpAnyH_take (i := 0) (oi := { dst := some 22, op := Op.move (Operand.tmp 4), type := 36, pos := "l6_log.go:68", after := #[], guard := none }) (v := ?_) rfl (by kernel_rfl) (by kernel_rfl) (by kernel_rfl) (fun _ _ _ h => h) (Or.inl ⟨by rfl, ?_⟩) (by assumption) ?_
      rotate_left
      · intro wq hSw
        (try dsimp only at hSw)
        go_simp
        try with_reducible rfl
      try simp only [Act.put, List.setIfInBounds_toArray, List.set_cons_zero, List.set_cons_succ]
      refine wpAnyH_take (i := 1) (oi := { dst := some 23, op := Op.indexAddr 36 (Operand.tmp 22) (Operand.const (Value.int IntKind.i64 0)), type := 0, pos := "l6_log.go:68", after := #[{ on := 0, ground := Ground.data }], guard := none }) (v := ?_) rfl (by kernel_rfl) (by kernel_rfl) (by kernel_rfl) (fun _ _ _ h => h) (Or.inl ⟨by rfl, ?_⟩) (by assumption) ?_
      rotate_left
      · intro wq hSw
        (try dsimp only at hSw)
        go_simp
        try with_reducible rfl
      try simp only [Act.put, List.setIfInBounds_toArray, List.set_cons_zero, List.set_cons_succ]
      refine wpAnyH_take (i := 2) (oi := { dst := some 24, op := Op.load 9 (Operand.tmp 23), type := 9, pos := "l6_log.go:68", after := #[{ on := 1, ground := Ground.data }], guard := none }) (v := ?_) rfl (by kernel_rfl) (by kernel_rfl) (by kernel_rfl) (fun _ _ _ h => h) (Or.inl ⟨by rfl, ?_⟩) (by assumption) ?_
      rotate_left
      · intro wq hSw
        (try dsimp only at hSw)
        go_simp
        try with_reducible rfl
      try simp only [Act.put, List.setIfInBounds_toArray, List.set_cons_zero, List.set_cons_succ]
      refine wpAnyH_take (i := 3) (oi := { dst := some 25, op := Op.binOp BinOp.eql 9 (Operand.tmp 24) (Operand.const (Value.string { data := #[104, 97, 115] })) 9, type := 4, pos := "l6_log.go:68", after := #[{ on := 2, ground := Ground.data }], guard := none }) (v := ?_) rfl (by kernel_rfl) (by kernel_rfl) (by kernel_rfl) (fun _ _ _ h => h) (Or.inl ⟨by rfl, ?_⟩) (by assumption) ?_
      rotate_left
      · intro wq hSw
        (try dsimp only at hSw)
        go_simp
        try with_reducible rfl
      try simp only [Act.put, List.setIfInBounds_toArray, List.set_cons_zero, List.set_cons_succ]
      refine wpAnyH_take (i := 4) (oi := { dst := some 26, op := Op.move (Operand.tmp 4), type := 36, pos := "l6_log.go:68", after := #[], guard := none }) (v := ?_) rfl (by kernel_rfl) (by kernel_rfl) (by kernel_rfl) (fun _ _ _ h => h) (Or.inl ⟨by rfl, ?_⟩) (by assumption) ?_
      rotate_left
      · intro wq hSw
        (try dsimp only at hSw)
        go_simp
        try with_reducible rfl
      try simp only [Act.put, List.setIfInBounds_toArray, List.set_cons_zero, List.set_cons_succ]
      refine wpAnyH_take (i := 5) (oi := { dst := some 27, op := Op.indexAddr 36 (Operand.tmp 26) (Operand.const (Value.int IntKind.i64 1)), type := 0, pos := "l6_log.go:68", after := #[{ on := 4, ground := Ground.data }], guard := none }) (v := ?_) rfl (by kernel_rfl) (by kernel_rfl) (by kernel_rfl) (fun _ _ _ h => h) (Or.inl ⟨by rfl, ?_⟩) (by assumption) ?_
      rotate_left
      · intro wq hSw
        (try dsimp only at hSw)
        go_simp
        try with_reducible rfl
      try simp only [Act.put, List.setIfInBounds_toArray, List.set_cons_zero, List.set_cons_succ]
      refine wpAnyH_take (i := 6) (oi := { dst := some 28, op := Op.load 9 (Operand.tmp 27), type := 9, pos := "l6_log.go:68", after := #[{ on := 5, ground := Ground.data }], guard := none }) (v := ?_) rfl (by kernel_rfl) (by kernel_rfl) (by kernel_rfl) (fun _ _ _ h => h) (Or.inl ⟨by rfl, ?_⟩) (by assumption) ?_
      rotate_left
      · intro wq hSw
        (try dsimp only at hSw)
        go_simp
        try with_reducible rfl
      try simp only [Act.put, List.setIfInBounds_toArray, List.set_cons_zero, List.set_cons_succ]
      refine wpAnyH_take (i := 7) (oi := { dst := some 29, op := Op.move (Operand.tmp 5), type := 9, pos := "l6_log.go:68", after := #[], guard := none }) (v := ?_) rfl (by kernel_rfl) (by kernel_rfl) (by kernel_rfl) (fun _ _ _ h => h) (Or.inl ⟨by rfl, ?_⟩) (by assumption) ?_
      rotate_left
      · intro wq hSw
        (try dsimp only at hSw)
        go_simp
        try with_reducible rfl
      try simp only [Act.put, List.setIfInBounds_toArray, List.set_cons_zero, List.set_cons_succ]
      refine wpAnyH_ready (rs := [8]) (by kernel_rfl) (by simp) ?_
      refine AllReadyH.cons (o := { dst := some 30, op := Op.call { callee := Callee.value (Operand.func 14), args := #[Operand.tmp 29], argTypes := #[9] }, type := 28, pos := "l6_log.go:68", after := #[{ on := 7, ground := Ground.data }], guard := none }) rfl (fun K hK => ?_) AllReadyH.nil
      go_simp
      refine (h50 _ hlen).mono ?_
      rintro e w2 ⟨⟨c, t, rfl, hrr, hts⟩, hb2⟩
      have hbc : Below w1.heap.size w1 w2 := ((Below.refl _ _).drew).trans hb2
      have hA2 := bA.below hbc hz1
      have hO2 := oA.below hbc hz1
      have hB2 : Below w.heap.size w w2 := hB1.trans (hbc.mono hB1.size)
      have HI := HYes (by first | rfl | trivial) c t hrr hts
      have e0 := (hbc.cell (p := ⟨g, 0, none⟩) hg1).trans c0
      have e1 := (hbc.cell (p := ⟨g, 1, none⟩) hg1).trans c1
      clear HYes hrr hb2 hbc
      go_wp2_with fail
      clear hHeld
      refine hK.out _ _ ?_ (fun hHeld => ?_)
      · exact ⟨e0, e1⟩
      clear hK K
      try simp only [Act.put, List.setIfInBounds_toArray, List.set_cons_zero, List.set_cons_succ]
      refine wpAnyH_take (i := 9) (oi := { dst := some 31, op := Op.build 43 #[(0, Operand.tmp 25), (1, Operand.tmp 28), (2, Operand.tmp 30)], type := 43, pos := "l6_log.go:68", after := #[{ on := 3, ground := Ground.data }, { on := 6, ground := Ground.data }, { on := 8, ground := Ground.data }], guard := none }) (v := ?_) rfl (by kernel_rfl) (by kernel_rfl) (by kernel_rfl) (fun _ _ _ h => h) (Or.inl ⟨by rfl, ?_⟩) (by assumption) ?_
      rotate_left
      · intro wq hSw
        (try dsimp only at hSw)
        go_simp
        try with_reducible rfl
      try simp only [Act.put, List.setIfInBounds_toArray, List.set_cons_zero, List.set_cons_succ]
      refine wpAnyH_ready (rs := [10]) (by kernel_rfl) (by simp) ?_
      refine AllReadyH.cons (o := { dst := none, op := Op.store 43 (Operand.tmp 2) (Operand.tmp 31), type := 0, pos := "l6_log.go:68", after := #[{ on := 9, ground := Ground.data }, { on := 8, ground := Ground.chain }, { on := 0, ground := Ground.phase }, { on := 1, ground := Ground.phase }, { on := 2, ground := Ground.phase }, { on := 3, ground := Ground.phase }, { on := 4, ground := Ground.phase }, { on := 5, ground := Ground.phase }, { on := 6, ground := Ground.phase }, { on := 7, ground := Ground.phase }, { on := 8, ground := Ground.phase }, { on := 9, ground := Ground.phase }], guard := none }) rfl (fun K hK => ?_) AllReadyH.nil
      refine step_store_blk rfl 43 (.tmp 2) (.tmp 31) rfl w.heap.size 0 rfl [.bool true, .string B, .int .i64 c, .string t] rfl (blk_some hA2 _ rfl) hO2 (by simp [Value.oneCell']) (by kernel_rfl) rfl ?_
      clear hHeld
      refine hK.out _ _ ?_ (fun hHeld => ?_)
      · exact ⟨(cell_fill _ 0 ⟨g, 0, none⟩ (by show g ≠ w.heap.size; omega)).trans e0, (cell_fill _ 0 ⟨g, 1, none⟩ (by show g ≠ w.heap.size; omega)).trans e1⟩
      clear hK K
      try simp only [Act.put, List.setIfInBounds_toArray, List.set_cons_zero, List.set_cons_succ]
      refine wpAnyH_take (i := 11) (oi := { dst := some 3, op := Op.assign (Operand.const (Value.bool true)), type := 4, pos := "l6_log.go:68", after := #[{ on := 10, ground := Ground.chain }, { on := 0, ground := Ground.phase }, { on := 1, ground := Ground.phase }, { on := 2, ground := Ground.phase }, { on := 3, ground := Ground.phase }, { on := 4, ground := Ground.phase }, { on := 5, ground := Ground.phase }, { on := 6, ground := Ground.phase }, { on := 7, ground := Ground.phase }, { on := 8, ground := Ground.phase }, { on := 9, ground := Ground.phase }, { on := 10, ground := Ground.phase }], guard := none }) (v := ?_) rfl (by kernel_rfl) (by kernel_rfl) (by kernel_rfl) (fun _ _ _ h => h) (Or.inl ⟨by rfl, ?_⟩) (by assumption) ?_
      rotate_left
      · intro wq hSw
        (try dsimp only at hSw)
        go_simp
        try with_reducible rfl
      try simp only [Act.put, List.setIfInBounds_toArray, List.set_cons_zero, List.set_cons_succ]
      refine wpAnyH_done (by kernel_rfl) ?_ _
      clear hHeld
      go_wp2
      have FF := BlkAt.fill (B := w.heap.size) [.bool true, .string B, .int .i64 c, .string t] [] [.bool false, .string ⟨#[]⟩, .int .i64 0, .string ⟨#[]⟩] [] 0 hA2 rfl rfl
      refine bodyPost_ret (v := .tuple #[.agg #[.bool true, .string B, .int .i64 c, .string t], .bool true]) (by exact results_blk2 Tryd.results13 _ _ w.heap.size _ _ _ rfl rfl FF Tryd.underlying43 rfl (by kernel_rfl)) rfl ⟨HI.out, by exact below_fill (Nat.le_refl _) _ 0 hB2⟩
theorem c15 (x : N10) (ai : Option Addr) (ci : Nat) (w : World) (hle : x.le 1048576) (hat : LksAt w ai x.ls) :
    Calls Tryd.prog 15 #[.agg (x.c ai ci).toArray] w fun e w' => IsT (EntOk x) (entL x) e ∧ Below w.heap.size w w' := by
  show Calls Tryd.prog 15 #[.agg #[.int .i64 x.kd, .int .i64 x.ep, .string x.fn, .string x.ft, .string x.km.nm, .string x.km.tl, .string x.km.ar, .slice ai x.ls.length ci, .int .i64 x.cd, .string x.tx]] w _
  by_cases h1 : x.kd = 1
  · have := c15_1 x h1 ai ci w hle hat
    rw [h1]; exact this
  by_cases h2 : x.kd = 2
  · have := c15_2 x h2 ai ci w hle hat
    rw [h2]; exact this
  by_cases h3 : x.kd = 3
  · have := c15_3 x h3 ai ci w hle hat
    rw [h3]; exact this
  by_cases h4 : x.kd = 4
  · have := c15_4 x h4 ai ci w hle hat
    rw [h4]; exact this
  by_cases h5 : x.kd = 5
  · have := c15_5 x h5 ai ci w hle hat
    rw [h5]; exact this
  exact c15_no x ai ci w h1 h2 h3 h4 h5
/-- What a text is read as, and that it is nothing else. -/
def RES (l : List UInt8) (x : N10) (ok : Bool) : Prop := (ok = true → EntOk x ∧ entL x = l ∧ ∀ y, EntOk y → entL y = l → x = y) ∧ (ok = false → ∀ y, EntOk y → entL y ≠ l)
def Is4 (l : List UInt8) (w' : World) (e : Ending) : Prop := ∃ (x : N10) (ok : Bool) (ai : Option Addr) (ci : Nat), e = .returned (.tuple #[.agg (x.c ai ci).toArray, .bool ok]) ∧ RES l x ok ∧ (ok = false → x = n10z ∧ ai = none ∧ ci = 0) ∧ x.le 1048576 ∧ LksAt w' ai x.ls
/-- What lines are read as, loosely. -/
def LsE (l : List UInt8) (x : N10) : Prop := ∀ y, EntOk y → entL y = l → x = y
theorem res_yes {l : List UInt8} {str : ByteArray} {x : N10} (hx : LsE l x) (hT : (EntOk x ∧ str = ofL (entL x)) ∨ (¬ EntOk x ∧ str = ⟨#[]⟩)) (hl : l ≠ []) (he : str.data.toList = l) : RES l x true := by
  refine ⟨fun _ => ?_, (fun h => by cases h)⟩
  rcases hT with ⟨h1, h2⟩ | ⟨h1, h2⟩
  · exact ⟨h1, by rw [← he, h2]; rfl, hx⟩
  · rw [h2] at he
    exact absurd he.symm hl
theorem res_no {l : List UInt8} {str : ByteArray} {x : N10} (hx : LsE l x) (hT : (EntOk x ∧ str = ofL (entL x)) ∨ (¬ EntOk x ∧ str = ⟨#[]⟩)) (he : str.data.toList ≠ l) : RES l n10z false := by
  refine ⟨(fun h => by cases h), fun _ y hy e => ?_⟩
  have := hx y hy e
  subst this
  rcases hT with ⟨h1, h2⟩ | ⟨h1, h2⟩
  · apply he; rw [h2]; exact e
  · exact h1 hy
theorem res_out {l : List UInt8} (h : l = [] ∨ 16000 < l.length) : RES l n10z false := by
  refine ⟨(fun h => by cases h), fun _ y hy e => ?_⟩
  have := ent_len hy
  rw [e] at this
  rcases h with h | h
  · rw [h] at this; simp at this
  · omega
theorem fin4 {w u : World} {a : Act} {l : List UInt8} (x : N10) (ai : Option Addr) (ci : Nat) (ok : Bool) (hn : RES l x ok) (hz : ok = false → x = n10z ∧ ai = none ∧ ci = 0) (hx : x.le 1048576) (hlk : LksAt (fill u w.heap.size 0 (x.c ai ci)) ai x.ls) (h4 : a.tmps.getD 2 undef = .pointer (some ⟨w.heap.size, 0, none⟩)) (h5 : a.tmps.getD 3 undef = .bool ok) (hd : a.defers = []) (hA : BlkAt u w.heap.size zE) (hb : Below w.heap.size w u) :
    bodyPost Tryd.prog Tryd.f4 (fun e w' => Is4 l w' e ∧ Below w.heap.size w w') .ret a (fill u w.heap.size 0 (x.c ai ci)) := by
  have FF := BlkAt.fill (B := w.heap.size) (x.c ai ci) [] zE [] 0 hA rfl rfl
  exact bodyPost_ret (v := .tuple #[.agg (x.c ai ci).toArray, .bool ok]) (results_blk2 Tryd.results4 _ _ w.heap.size _ _ _ h4 h5 FF Tryd.underlying30 rfl (by kernel_rfl)) hd ⟨⟨x, ok, ai, ci, rfl, hn, hz, hx, hlk⟩, below_fill (Nat.le_refl _) _ 0 hb⟩
theorem fin4_no {w u : World} {a : Act} {l : List UInt8} (hn : RES l n10z false) (h4 : a.tmps.getD 2 undef = .pointer (some ⟨w.heap.size, 0, none⟩)) (h5 : a.tmps.getD 3 undef = .bool false) (hd : a.defers = []) (hA : BlkAt u w.heap.size zE) (hb : Below w.heap.size w u) :
    bodyPost Tryd.prog Tryd.f4 (fun e w' => Is4 l w' e ∧ Below w.heap.size w w') .ret a (fill u w.heap.size 0 zE) :=
  fin4 n10z none 0 false hn (fun _ => ⟨rfl, rfl, rfl⟩) n10z_le (.inl rfl) h4 h5 hd hA hb
theorem lks_filo {u : World} {B : Nat} (vs : List Value) {ai : Option Addr} {is : List L4} (h : LksAt u ai is) (hb : ∀ g o, ai = some ⟨g, o, none⟩ → g ≠ B) : LksAt (fill u B 0 vs) ai is := by
  rcases h with h | ⟨b, off, h1, h2, h3⟩
  · exact .inl h
  · refine .inr ⟨b, off, h1, by rw [size_fill]; exact h2, fun i hi => ?_⟩
    have hne := hb b off h1
    rw [cell_fill _ _ _ hne, cell_fill _ _ _ hne, cell_fill _ _ _ hne, cell_fill _ _ _ hne]
    exact h3 i hi
theorem own_set {w : World} {B e size n : Nat} {v : Value} {xs : List Value} (h : w.ownsRow B e size v n xs) (p : Addr) (y : Value) (hp : p.block < B) : (w.setCell p y).ownsRow B e size v n xs := by
  refine ⟨h.1, ?_⟩
  rcases h.2 with h0 | ⟨g, cap, cur, hv, hg, hh, r⟩
  · exact .inl h0
  · refine .inr ⟨g, cap, cur, hv, hg, ?_, r⟩
    rw [Go.Deep.blk_setCell_other w p y g (by omega)]; exact hh
/-- A whole block is loaded by a step that stands behind a guard. -/
theorem wpList_load_blkW {P : Program} {ops : Array Oper} {rest : List Oper} {o : Oper} {a : Act} {w : World} {Q : Exit → Act → World → Prop} (hw : Region.wanted o (yielded ops a.tmps) = true) (ty : TypeId) (x : Operand) (ho : o.op = .load ty x)
    (B : Nat) (hx : a.eval x = .pointer (some ⟨B, 0, none⟩)) (cs : List Value) (d : TypeDesc) (hc : BlkAt w B cs)
    (hu : P.underlying ty = some d) (hd : (match d with | .struct _ | .array _ _ => true | _ => false) = true) (hi : (P.info? ty).map (·.size) = some cs.length)
    (h : wpList P ops Q rest (a.put o.dst (.agg cs.toArray)) w) : wpList P ops Q (o :: rest) a w := by
  refine wpList_step fun K hK => ?_
  rw [if_pos hw]
  unfold Oper.wp execOp
  simp only [ho, hx, Instr.loadAt, Instr.sureAddr, Sem.run_bind, Sem.run_pure, Result.andThen_ok, run_loadVar_blk w B ty cs d hc hu hd hi]
  exact hK _ _ h
theorem ent_lines {l : List UInt8} {y : N10} (hy : EntOk y) (e : entL y = l) : cutS 10 l = linesE y ++ [[]] := by
  rw [← e]; exact cut_join _ (lines_no hy)
theorem ent_word {l : List UInt8} {y : N10} (hy : EntOk y) (e : entL y = l) : wordOf ((cutS 10 l).getD 0 []) = wrdE y := by
  rw [ent_lines hy e]
  have hne : linesE y ≠ [] := by unfold linesE; (repeat' split) <;> simp
  obtain ⟨f, b, hfb⟩ := List.exists_cons_of_ne_nil hne
  rw [hfb]
  exact (first_word hy hfb.symm).1
theorem lsE_none {l : List UInt8} (x : N10) (h1 : wordOf ((cutS 10 l).getD 0 []) ≠ wRan) (h2 : wordOf ((cutS 10 l).getD 0 []) ≠ wEpoch) (h3 : wordOf ((cutS 10 l).getD 0 []) ≠ wFile) (h4 : wordOf ((cutS 10 l).getD 0 []) ≠ wDrop) (h5 : wordOf ((cutS 10 l).getD 0 []) ≠ wClear) : LsE l x := by
  intro y hy e
  exfalso
  have hw := ent_word hy e
  unfold wrdE at hw
  split at hw
  · exact h2 hw
  · split at hw
    · exact h3 hw
    · split at hw
      · exact h4 hw
      · split at hw
        · exact h1 hw
        · exact h5 hw
theorem lsE_1 {l F : List UInt8} (hF : (cutS 10 l).getD 0 [] = F) (hw : wordOf F = wEpoch) : LsE l (eEpoch (n29 (restOf F))) := by
  intro y hy e
  have h1 := ent_word hy e
  rw [hF] at h1
  obtain ⟨n, hn, rfl⟩ := is_epoch hy (of_word hy (.inl rfl) h1 (by rw [hw]; rfl))
  rw [ent_lines hy e] at hF
  have e' : wEpoch ++ 32 :: dec n = F := hF
  have hr : restOf F = dec n := by rw [← e']; exact (word_split (by decide)).2
  rw [hr, n29_back (by omega) (by omega)]
theorem lsE_2 {l F t : List UInt8} (hF : (cutS 10 l).getD 0 [] = F) (hw : wordOf F = wFile) (ht : ∀ q, restOf (restOf F) = quoteL q → t = q) : LsE l (eFile (ofL (wordOf (restOf F))) (ofL t)) := by
  intro y hy e
  have h1 := ent_word hy e
  rw [hF] at h1
  obtain ⟨a, b, hn, rfl⟩ := is_file hy (of_word hy (.inr (.inl rfl)) h1 (by rw [hw]; rfl))
  rw [ent_lines hy e] at hF
  have e' : wFile ++ 32 :: (a.data.toList ++ 32 :: quoteL b.data.toList) = F := hF
  have hr : restOf F = a.data.toList ++ 32 :: quoteL b.data.toList := by rw [← e']; exact (word_split (by decide)).2
  obtain ⟨w1, w2⟩ := word_split (r := quoteL b.data.toList) (name_no hn.1).1
  rw [← hr] at w1 w2
  rw [w1, ht _ w2]; rfl
theorem lsE_3 {l F : List UInt8} (hF : (cutS 10 l).getD 0 [] = F) (hw : wordOf F = wDrop) : LsE l (eDrop (ofL (restOf F))) := by
  intro y hy e
  have h1 := ent_word hy e
  rw [hF] at h1
  obtain ⟨a, hn, rfl⟩ := is_drop hy (of_word hy (.inr (.inr (.inl rfl))) h1 (by rw [hw]; rfl))
  rw [ent_lines hy e] at hF
  have e' : wDrop ++ 32 :: a.data.toList = F := hF
  have hr : restOf F = a.data.toList := by rw [← e']; exact (word_split (by decide)).2
  rw [hr]; rfl
theorem lsE_5 {l F : List UInt8} (hF : (cutS 10 l).getD 0 [] = F) (hw : wordOf F = wClear) : LsE l eClear := by
  intro y hy e
  have h1 := ent_word hy e
  rw [hF] at h1
  exact (is_clear hy (of_word hy (.inr (.inr (.inr (.inr rfl)))) h1 (by rw [hw]; rfl))).symm
/-- The lines of a run read loosely so far. -/
def RnSo (Ls : List (List UInt8)) (k : Nat) (xs : List L4) (c : Int) (t : ByteArray) : Prop := ∀ (f : List UInt8) (ys : List L4) (c' : Int) (t' : ByteArray), LksOk ys → vr c' t'.data.toList = true → Ls = f :: (ys.map lookB ++ [wGave ++ 32 :: resL c' t', []]) → xs = ys.take (k - 1) ∧ (ys.length + 1 < k → c = c' ∧ t = t')
theorem rn_start (Ls : List (List UInt8)) (c : Int) (t : ByteArray) : RnSo Ls 1 [] c t := fun _ ys _ _ _ _ _ => ⟨by simp, fun h => by omega⟩
theorem gave_no (r : List UInt8) : isW (wGave ++ 32 :: r) = false := by
  have := (word_split (a := wGave) (r := r) (by decide)).1
  unfold isW hasW
  rw [this]
  decide
/-- Which line it is. -/
theorem rn_line {Ls : List (List UInt8)} {k : Nat} {f : List UInt8} {ys : List L4} {g : List UInt8} (hk1 : 1 ≤ k) (hk : k < Ls.length) (e : Ls = f :: (ys.map lookB ++ [g, []])) :
    (∃ h : k - 1 < ys.length, Ls.getD k [] = lookB (ys[k - 1])) ∨ (k = ys.length + 1 ∧ Ls.getD k [] = g) ∨ (k = ys.length + 2 ∧ Ls.getD k [] = []) := by
  subst e
  obtain ⟨j, rfl⟩ : ∃ j, k = j + 1 := ⟨k - 1, by omega⟩
  have hg : (f :: (ys.map lookB ++ [g, []])).getD (j + 1) [] = (ys.map lookB ++ [g, []]).getD j [] := rfl
  rw [hg]
  simp only [List.length_cons, List.length_append, List.length_map, List.length_nil] at hk
  rcases Nat.lt_or_ge j ys.length with hl | hl
  · refine .inl ⟨by omega, ?_⟩
    rw [List.getD_eq_getElem?_getD, List.getElem?_append_left (by simpa using hl)]
    simp [hl]
  · right
    rw [List.getD_eq_getElem?_getD, List.getElem?_append_right (by simpa using hl)]
    simp only [List.length_map]
    have : j - ys.length = 0 ∨ j - ys.length = 1 := by omega
    rcases this with h | h
    · exact .inl ⟨by omega, by rw [h]; rfl⟩
    · exact .inr ⟨by omega, by rw [h]; rfl⟩
theorem rn_look {Ls : List (List UInt8)} {k : Nat} {xs : List L4} {c : Int} {t : ByteArray} {x : L4} (h : RnSo Ls k xs c t) (hk1 : 1 ≤ k) (hk : k < Ls.length) (hx : LsLk (Ls.getD k []) x true) : RnSo Ls (k + 1) (xs ++ [x]) c t := by
  intro f ys c' t' hy hv e
  obtain ⟨h1, h2⟩ := h f ys c' t' hy hv e
  rcases rn_line hk1 hk e with ⟨hl, e1⟩ | ⟨rfl, e1⟩ | ⟨rfl, e1⟩
  · have hok := hy.2 _ hl
    have eg : ys.getD (k - 1) l4z = ys[k - 1] := by simp [hl]
    rw [eg] at hok
    obtain ⟨_, hx2⟩ := hx.1 _ hok e1
    refine ⟨?_, fun h => by omega⟩
    rw [h1, hx2, show k + 1 - 1 = (k - 1) + 1 by omega, List.take_succ_eq_append_getElem hl]
  · have := hx.2 (by rw [e1]; exact gave_no _)
    cases this
  · have := hx.2 (by rw [e1]; decide)
    cases this
theorem rn_res {Ls : List (List UInt8)} {k : Nat} {xs : List L4} {c c2 : Int} {t t2 : ByteArray} {x : L4} (h : RnSo Ls k xs c t) (hk1 : 1 ≤ k) (hk : k < Ls.length) (hx : LsLk (Ls.getD k []) x false) (hl5 : 5 < (Ls.getD k []).length) (hr : LsRes ((Ls.getD k []).drop 5) c2 t2) : RnSo Ls (k + 1) xs c2 t2 := by
  intro f ys c' t' hy hv e
  obtain ⟨h1, h2⟩ := h f ys c' t' hy hv e
  rcases rn_line hk1 hk e with ⟨hl, e1⟩ | ⟨rfl, e1⟩ | ⟨rfl, e1⟩
  · have hok := hy.2 _ hl
    have eg : ys.getD (k - 1) l4z = ys[k - 1] := by simp [hl]
    rw [eg] at hok
    have := (hx.1 _ hok e1).1
    cases this
  · refine ⟨?_, fun _ => hr _ _ (vr_code hv).1 (vr_code hv).2 (by rw [e1]; rfl)⟩
    rw [h1, List.take_of_length_le (by omega), List.take_of_length_le (by omega)]
  · rw [e1] at hl5; simp at hl5
theorem rn_skip {Ls : List (List UInt8)} {k : Nat} {xs : List L4} {c : Int} {t : ByteArray} {x : L4} (h : RnSo Ls k xs c t) (hk1 : 1 ≤ k) (hk : k < Ls.length) (hx : LsLk (Ls.getD k []) x false) (hl5 : ¬ 5 < (Ls.getD k []).length) : RnSo Ls (k + 1) xs c t := by
  intro f ys c' t' hy hv e
  obtain ⟨h1, h2⟩ := h f ys c' t' hy hv e
  rcases rn_line hk1 hk e with ⟨hl, e1⟩ | ⟨rfl, e1⟩ | ⟨rfl, e1⟩
  · have hok := hy.2 _ hl
    have eg : ys.getD (k - 1) l4z = ys[k - 1] := by simp [hl]
    rw [eg] at hok
    have := (hx.1 _ hok e1).1
    cases this
  · exfalso
    rw [e1] at hl5
    have hne : resL c' t' ≠ [] := resL_ne _ _
    have : 0 < (resL c' t').length := List.length_pos_iff.2 hne
    apply hl5
    simp only [List.length_append, List.length_cons, wGave, List.length_nil]; omega
  · exact ⟨by rw [h1, List.take_of_length_le (by omega), List.take_of_length_le (by omega)], fun _ => h2 (by omega)⟩
theorem lsE_4 {l F q : List UInt8} {xs : List L4} {c : Int} {t : ByteArray} (hF : (cutS 10 l).getD 0 [] = F) (hw : wordOf F = wRan) (hq : ∀ p, restN (restOf F) 2 = quoteL p → q = p) (hs : RnSo (cutS 10 l) (cutS 10 l).length xs c t) : LsE l (eRan ⟨ofL (wordOf (restOf F)), ofL (wordOf (restN (restOf F) 1)), ofL q⟩ xs c t) := by
  intro y hy e
  have h1 := ent_word hy e
  rw [hF] at h1
  obtain ⟨m, ls, c', t', ⟨n1, n2, n3⟩, rfl⟩ := is_ran hy (of_word hy (.inr (.inr (.inr (.inl rfl)))) h1 (by rw [hw]; rfl))
  have hl := ent_lines hy e
  have hl2 : cutS 10 l = (wRan ++ 32 :: bodyL m) :: (ls.map lookB ++ [wGave ++ 32 :: resL c' t', []]) := by rw [hl]; simp [linesE, eRan]
  obtain ⟨s1, s2⟩ := hs _ ls c' t' n2 n3 hl2
  have hlen : (cutS 10 l).length = ls.length + 3 := by rw [hl2]; simp
  obtain ⟨rfl, rfl⟩ := s2 (by omega)
  rw [List.take_of_length_le (by omega)] at s1
  rw [hl2] at hF
  have e' : wRan ++ 32 :: bodyL m = F := hF
  have hr : restOf F = bodyL m := by rw [← e']; exact (word_split (by decide)).2
  obtain ⟨k1, k2, _⟩ := okM_facts n1
  rw [body_form] at hr
  obtain ⟨w1, w2⟩ := word_split (r := m.tl.data.toList ++ 32 :: quoteL m.ar.data.toList) (name_no k1).1
  obtain ⟨w3, w4⟩ := word_split (r := quoteL m.ar.data.toList) (name_no k2).1
  have r1 : restN (restOf F) 1 = m.tl.data.toList ++ 32 :: quoteL m.ar.data.toList := by rw [hr]; exact w2
  have r2 : restN (restOf F) 2 = quoteL m.ar.data.toList := by
    show restOf (restN (restOf F) 1) = _
    rw [r1]; exact w4
  have hq' := hq _ r2
  rw [r1, hr, w1, w3, hq', s1]; rfl
end Go.Proofs.YtejlfpolnddfdaaDoor
namespace Go.Proofs.YtejlfpolnddfdaaDoor
open Go.RowKit
set_option linter.unusedVariables false
theorem c12l (l : List UInt8) (w : World) (hs : l.length ≤ 1048700) : Calls Tryd.prog 12 #[.string (ofL l)] w fun e w' => (∃ t, e = .returned (.string (ofL t)) ∧ t.length ≤ l.length + 1 ∧ ∀ q, l = quoteL q → t = q) ∧ Below w.heap.size w w' := by
  have h := c12 (ofL l) w (by rw [ofL_size]; exact hs)
  rw [ofL_size] at h
  exact h
set_option maxHeartbeats 16000000 in
set_option maxRecDepth 100000 in
theorem c4_file (s : ByteArray) (w : World) (h1 : 1 ≤ s.size) (h16 : s.size ≤ 16000) (hw : wordOf ((cutS 10 s.data.toList).getD 0 []) = wFile) :
    Calls Tryd.prog 4 #[.string s] w fun e w' => Is4 s.data.toList w' e ∧ Below w.heap.size w w' := by
  have hB0 : Below w.heap.size w ((w.alloc (.cells zE.toArray 30)).alloc (.cells zE.toArray 30)) := ((Below.refl _ _).alloc (Nat.le_refl _) _).alloc (by simp) _
  have hsl : s.data.toList.length = s.size := by simp
  have HNE : Hid (s.data.toList ≠ []) := fun h => by rw [h] at hsl; simp at hsl; omega
  have hse : (s.toList == []) = false := by
    rw [ByteArray.toList_eq]; exact beq_eq_false_iff_ne.2 HNE.out
  have hse2 : ¬ s.toList = [] := by simpa using hse
  have h16' : decide (16000 < (s.size : Int)) = false := by simp; omega
  go_enter Tryd.func4, Tryd.ntmps4
  go_wp2_with fail
  refine (c9 s 10 _ (by omega)).mono ?_
  rintro e w1 ⟨⟨g2, cp, rfl, hg2, hL1⟩, hb1⟩
  have hz1w : ((w.alloc (.cells zE.toArray 30)).alloc (.cells zE.toArray 30)).heap.size = w.heap.size + 2 := by simp
  have hx1 : Below (w.heap.size + 2) ((w.alloc (.cells zE.toArray 30)).alloc (.cells zE.toArray 30)) w1 := hb1.mono (by simp)
  have hg2a : w.heap.size + 2 ≤ g2 := by have h := hg2; simp at h; omega
  have hz1 : w.heap.size + 2 ≤ w1.heap.size := by have h := hx1.size; rw [hz1w] at h; exact h
  have bR1 : BlkAt w1 w.heap.size zE := ((blk_new w zE 30).below ((Below.refl _ _).alloc (Nat.le_refl _) _) (by simp)).below hx1 (by omega)
  have oR1 : OpnAt w1 w.heap.size := ((opn_new w zE.toArray 30).below ((Below.refl _ _).alloc (Nat.le_refl _) _) (by simp)).below hx1 (by omega)
  have bM1 : BlkAt w1 (w.heap.size + 1) zE := BlkAt.below (by have h := blk_new (w.alloc (.cells zE.toArray 30)) zE 30; simp at h; exact h) hx1 (by omega)
  have oM1 : OpnAt w1 (w.heap.size + 1) := OpnAt.below (by have h := opn_new (w.alloc (.cells zE.toArray 30)) zE.toArray 30; simp at h; exact h) hx1 (by omega)
  have hB1 : Below w.heap.size w w1 := hB0.trans (hx1.mono (by omega))
  have hcl := cut_len 10 s.data.toList
  have hcs := cut_small 10 s.data.toList
  clear hb1 hg2 hz1w hx1
  obtain ⟨Ls, hLs⟩ : ∃ Ls, Ls = cutS 10 s.data.toList := ⟨_, rfl⟩
  rw [← hLs] at hL1 hcl hcs hw ⊢
  have HLS : Hid (cutS 10 s.data.toList = Ls) := hLs.symm
  have HCS : Hid (∀ k, (Ls.getD k []).length ≤ 16000) := fun k => Nat.le_trans (hcs k) (by omega)
  obtain ⟨F, hF⟩ : ∃ F, F = Ls.getD 0 [] := ⟨_, rfl⟩
  have HF : Hid (Ls.getD 0 [] = F) := hF.symm
  have hFl : F.length ≤ 16000 := by rw [hF]; exact HCS.out 0
  rw [← hF] at hw
  have hcl1 : 1 ≤ Ls.length := hcl.1
  have hcl2 : Ls.length ≤ 16001 := by have := hcl.2; omega
  have c0 : w1.cell? ⟨g2, 0, none⟩ = some (.string (ofL F)) := by rw [hF]; exact hL1.2 0 hcl1
  have hg2b := hL1.1
  clear hF hLs hcs hcl
  go_wp2_with fail
  refine (c10o F _ (by omega) 1 (by omega) (by omega)).mono ?_
  rintro e w3 ⟨⟨g3, cp3, rfl, hg3, hl3⟩, hb3⟩
  have hz3 : w1.heap.size ≤ w3.heap.size := hb3.size
  have bR := BlkAt.below bR1 hb3 (by omega)
  have oR := OpnAt.below oR1 hb3 (by omega)
  have bM := BlkAt.below bM1 hb3 (by omega)
  have oM := OpnAt.below oM1 hb3 (by omega)
  have hL3 : Hid (LinesAt w3 g2 Ls) := lines_below hL1 hb3
  have hB3 : Below w.heap.size w w3 := hB1.trans (hb3.mono hB1.size)
  have d0 : w3.cell? ⟨g3, 0, none⟩ = some (.string (ofL (wordOf F))) := hl3.2 0 (by simp [wordsN])
  have hg3b : g3 < w3.heap.size := hl3.1
  have hrs := rest_small F
  have hrN : ofL (restN F 1) = ofL (restOf F) := rfl
  rw [hrN]
  clear hrN hb3 bR1 oR1 bM1 oM1 hL1 hB1 hl3 c0 hB0
  have hMz : w.heap.size + 1 < w3.heap.size := by omega
  have hRB : w.heap.size < w.heap.size + 1 := by omega
  have hg3M : w.heap.size + 1 < g3 := by omega
  have hg2M : w.heap.size + 1 < g2 := by omega
  have hg2z : g2 < w3.heap.size := by omega
  clear hg3 hg2b hg2a hz1 hz3
  generalize w.heap.size + 1 = Bm at *
  have HXg := fun t ht => lsE_2 (l := s.data.toList) (F := F) (t := t) (by rw [HLS.out]; exact HF.out) hw ht
  have HW : Hid (wordOf F = wFile) := hw
  have hes : ofL (wordOf F) = ⟨#[102, 105, 108, 101]⟩ := by rw [hw]; rfl
  rw [hes] at d0
  clear hw hes
  have k0 := bM 0 _ rfl
  have f0 := oM 0
  have hrs2 := rest_small (restOf F)
  have hrs3 := rest_small (restOf (restOf F))
  go_wp2_with fail
  refine (c10o (restOf F) _ (by omega) 1 (by omega) (by omega)).mono ?_
  rintro e w4 ⟨⟨g4, cp4, rfl, hg4, hl4⟩, hb4⟩
  have hzs : (w3.setCell ⟨Bm, 0, none⟩ (.int .i64 2)).heap.size = w3.heap.size := by simp
  have hz4 : w3.heap.size ≤ w4.heap.size := by have h := hb4.size; rw [hzs] at h; exact h
  have bM4 := BlkAt.below (bM.set 0 (.int .i64 2) (by show 0 < 10; omega)) hb4 (by rw [hzs]; exact hMz)
  have oM4 := OpnAt.below (oM.set ⟨Bm, 0, none⟩ (.int .i64 2)) hb4 (by rw [hzs]; exact hMz)
  have bR4 := BlkAt.below (bR.other ⟨Bm, 0, none⟩ (.int .i64 2) (by show Bm ≠ w.heap.size; omega)) hb4 (by rw [hzs]; omega)
  have oR4 := OpnAt.below (oR.set ⟨Bm, 0, none⟩ (.int .i64 2)) hb4 (by rw [hzs]; omega)
  have hB4 : Below w.heap.size w w4 := (hB3.setCell (by show w.heap.size ≤ Bm; omega) _).trans (hb4.mono (by rw [hzs]; omega))
  have hg4a : w3.heap.size ≤ g4 := by rw [hzs] at hg4; exact hg4
  have hg4b : g4 < w4.heap.size := hl4.1
  have hL4 : Hid (LinesAt w4 g2 Ls) := ⟨by omega, fun i hi => (hb4.cell (p := ⟨g2, i, none⟩) (by rw [hzs]; exact hg2z)).trans (pset (q := ⟨Bm, 0, none⟩) (p := ⟨g2, i, none⟩) (by show Bm ≠ g2; omega) (hL3.out.2 i hi) _)⟩
  have e0 : w4.cell? ⟨g4, 0, none⟩ = some (.string (ofL (wordOf (restOf F)))) := hl4.2 0 (by simp [wordsN])
  have hrN2 : ofL (restN (restOf F) 1) = ofL (restOf (restOf F)) := rfl
  rw [hrN2]
  clear hrN2 hb4 hzs bM oM bR oR hB3 hl4 hg4 hL3 d0 k0 f0
  have a1 : (wordOf (restOf F)).length ≤ 16000 := by omega
  have a2 : (restOf (restOf F)).length ≤ 16000 := by omega
  clear hrs hrs2 hrs3
  generalize wordOf (restOf F) = A1 at *
  generalize restOf (restOf F) = A2 at *
  go_wp2_with fail
  refine wp_region_held_drew (S := (fun u => u.cell? ⟨g4, 0, none⟩ = some (.string (ofL A1)))) (by kernel_rfl) ?_ (fun hHeld => ?_)
  · exact e0
  refine wpAnyH_take (i := 0) (oi := { dst := some 46, op := Op.move (Operand.tmp 8), type := 36, pos := "l6_log.go:86", after := #[], guard := none }) (v := ?_) rfl (by kernel_rfl) (by kernel_rfl) (by kernel_rfl) (fun _ _ _ h => h) (Or.inl ⟨by rfl, ?_⟩) (by assumption) ?_
  rotate_left
  · intro wq hSw
    (try dsimp only at hSw)
    go_simp
    try with_reducible rfl
  try simp only [Act.put, List.setIfInBounds_toArray, List.set_cons_zero, List.set_cons_succ]
  refine wpAnyH_take (i := 1) (oi := { dst := some 47, op := Op.indexAddr 36 (Operand.tmp 46) (Operand.const (Value.int IntKind.i64 0)), type := 0, pos := "l6_log.go:86", after := #[{ on := 0, ground := Ground.data }], guard := none }) (v := ?_) rfl (by kernel_rfl) (by kernel_rfl) (by kernel_rfl) (fun _ _ _ h => h) (Or.inl ⟨by rfl, ?_⟩) (by assumption) ?_
  rotate_left
  · intro wq hSw
    (try dsimp only at hSw)
    go_simp
    try with_reducible rfl
  try simp only [Act.put, List.setIfInBounds_toArray, List.set_cons_zero, List.set_cons_succ]
  refine wpAnyH_take (i := 2) (oi := { dst := some 48, op := Op.load 9 (Operand.tmp 47), type := 9, pos := "l6_log.go:86", after := #[{ on := 1, ground := Ground.data }], guard := none }) (v := ?_) rfl (by kernel_rfl) (by kernel_rfl) (by kernel_rfl) (fun _ _ _ h => h) (Or.inl ⟨by rfl, ?_⟩) (by assumption) ?_
  rotate_left
  · intro wq hSw
    (try dsimp only at hSw)
    go_simp
    try with_reducible rfl
  try simp only [Act.put, List.setIfInBounds_toArray, List.set_cons_zero, List.set_cons_succ]
  refine wpAnyH_take (i := 3) (oi := { dst := some 49, op := Op.move (Operand.tmp 9), type := 9, pos := "l6_log.go:86", after := #[], guard := none }) (v := ?_) rfl (by kernel_rfl) (by kernel_rfl) (by kernel_rfl) (fun _ _ _ h => h) (Or.inl ⟨by rfl, ?_⟩) (by assumption) ?_
  rotate_left
  · intro wq hSw
    (try dsimp only at hSw)
    go_simp
    try with_reducible rfl
  try simp only [Act.put, List.setIfInBounds_toArray, List.set_cons_zero, List.set_cons_succ]
  refine wpAnyH_ready (rs := [4]) (by kernel_rfl) (by simp) ?_
  refine AllReadyH.cons (o := { dst := some 50, op := Op.call { callee := Callee.value (Operand.func 12), args := #[Operand.tmp 49], argTypes := #[9] }, type := 9, pos := "l6_log.go:86", after := #[{ on := 3, ground := Ground.data }], guard := none }) rfl (fun K hK => ?_) AllReadyH.nil
  go_simp
  refine (c12l A2 _ (by omega)).mono ?_
  rintro e w5 ⟨⟨t, rfl, htl, htq⟩, hbn⟩
  have hbc : Below w4.heap.size w4 w5 := ((Below.refl _ _).drew).trans hbn
  have HTQ : Hid (∀ q, A2 = quoteL q → t = q) := htq
  clear hbn htq
  go_wp2_with fail
  clear hHeld
  refine hK.out _ _ ?_ (fun hHeld => ?_)
  · exact (hbc.cell (p := ⟨g4, 0, none⟩) hg4b).trans e0
  clear hK K
  try simp only [Act.put, List.setIfInBounds_toArray, List.set_cons_zero, List.set_cons_succ]
  refine wpAnyH_take (i := 5) (oi := { dst := some 51, op := Op.build 23 #[(0, Operand.tmp 48), (1, Operand.tmp 50)], type := 23, pos := "l6_log.go:86", after := #[{ on := 2, ground := Ground.data }, { on := 4, ground := Ground.data }], guard := none }) (v := ?_) rfl (by kernel_rfl) (by kernel_rfl) (by kernel_rfl) (fun _ _ _ h => h) (Or.inl ⟨by rfl, ?_⟩) (by assumption) ?_
  rotate_left
  · intro wq hSw
    (try dsimp only at hSw)
    go_simp
    try with_reducible rfl
  try simp only [Act.put, List.setIfInBounds_toArray, List.set_cons_zero, List.set_cons_succ]
  refine wpAnyH_take (i := 6) (oi := { dst := some 52, op := Op.fieldAddr 30 (Operand.tmp 4) 2, type := 0, pos := "l6_log.go:86", after := #[{ on := 0, ground := Ground.phase }, { on := 1, ground := Ground.phase }, { on := 2, ground := Ground.phase }, { on := 3, ground := Ground.phase }, { on := 4, ground := Ground.phase }, { on := 5, ground := Ground.phase }], guard := none }) (v := ?_) rfl (by kernel_rfl) (by kernel_rfl) (by kernel_rfl) (fun _ _ _ h => h) (Or.inl ⟨by rfl, ?_⟩) (by assumption) ?_
  rotate_left
  · intro wq hSw
    (try dsimp only at hSw)
    go_simp
    try with_reducible rfl
  try simp only [Act.put, List.setIfInBounds_toArray, List.set_cons_zero, List.set_cons_succ]
  have bM5 := BlkAt.below bM4 hbc (by omega)
  have oM5 := OpnAt.below oM4 hbc (by omega)
  have e5 : w5.cell? ⟨g4, 0, none⟩ = some (.string (ofL A1)) := (hbc.cell (p := ⟨g4, 0, none⟩) hg4b).trans e0
  refine wpAnyH_ready (rs := [7]) (by kernel_rfl) (by simp) ?_
  refine AllReadyH.cons (o := { dst := none, op := Op.store 23 (Operand.tmp 52) (Operand.tmp 51), type := 0, pos := "l6_log.go:86", after := #[{ on := 6, ground := Ground.data }, { on := 5, ground := Ground.data }, { on := 4, ground := Ground.chain }, { on := 0, ground := Ground.phase }, { on := 1, ground := Ground.phase }, { on := 2, ground := Ground.phase }, { on := 3, ground := Ground.phase }, { on := 4, ground := Ground.phase }, { on := 5, ground := Ground.phase }], guard := none }) rfl (fun K hK => ?_) AllReadyH.nil
  refine step_store_blk rfl 23 (.tmp 52) (.tmp 51) rfl Bm 2 rfl [.string (ofL A1), .string (ofL t)] rfl (fun i hi => by rcases i with _ | _ | i; exact (by rw [bM5 2 _ rfl]; rfl); exact (by rw [bM5 3 _ rfl]; rfl); simp at hi; omega) oM5 (by simp [Value.oneCell']) (by kernel_rfl) rfl ?_
  clear hHeld
  refine hK.out _ _ ?_ (fun hHeld => ?_)
  · exact (cell_fill _ 2 ⟨g4, 0, none⟩ (by show g4 ≠ Bm; omega)).trans e5
  clear hK K
  try simp only [Act.put, List.setIfInBounds_toArray, List.set_cons_zero, List.set_cons_succ]
  refine wpAnyH_done (by kernel_rfl) ?_ _
  clear hHeld
  have hz5 : w4.heap.size ≤ w5.heap.size := hbc.size
  have bR5 := BlkAt.below bR4 hbc (by omega)
  have oR5 := OpnAt.below oR4 hbc (by omega)
  have hB5 : Below w.heap.size w w5 := hB4.trans (hbc.mono hB4.size)
  have HX : Hid (LsE s.data.toList (eFile (ofL A1) (ofL t))) := HXg t HTQ.out
  have HM : BlkAt (fill w5 Bm 2 [.string (ofL A1), .string (ofL t)]) Bm ((eFile (ofL A1) (ofL t)).c none 0) := BlkAt.fill (B := Bm) [.string (ofL A1), .string (ofL t)] [.int .i64 2, .int .i64 0] [.string ⟨#[]⟩, .string ⟨#[]⟩] [.string ⟨#[]⟩, .string ⟨#[]⟩, .string ⟨#[]⟩, .slice none 0 0, .int .i64 0, .string ⟨#[]⟩] 2 bM5 rfl rfl
  have HR : BlkAt (fill w5 Bm 2 [.string (ofL A1), .string (ofL t)]) w.heap.size zE := BlkAt.fillO (by omega) _ 2 bR5
  have HO : OpnAt (fill w5 Bm 2 [.string (ofL A1), .string (ofL t)]) w.heap.size := OpnAt.fill _ 2 oR5
  have hBU : Below w.heap.size w (fill w5 Bm 2 [.string (ofL A1), .string (ofL t)]) := below_fill (by omega) _ 2 hB5
  have hMU : Bm < (fill w5 Bm 2 [.string (ofL A1), .string (ofL t)]).heap.size := by rw [size_fill]; omega
  have hRU : w.heap.size < (fill w5 Bm 2 [.string (ofL A1), .string (ofL t)]).heap.size := by rw [size_fill]; omega
  have HLK : LksAt (fill w5 Bm 2 [.string (ofL A1), .string (ofL t)]) none (eFile (ofL A1) (ofL t)).ls := .inl rfl
  have hle : (eFile (ofL A1) (ofL t)).le 1048576 := ⟨by show (ofL A1).size ≤ 1048576; rw [ofL_size]; omega, by show (ofL t).size ≤ 1048576; rw [ofL_size]; omega, ⟨Nat.zero_le _, Nat.zero_le _, Nat.zero_le _⟩, ⟨Nat.zero_le _, fun _ => ⟨Nat.zero_le _, Nat.zero_le _⟩⟩, Nat.zero_le _⟩
  have hAne : ∀ g o, (none : Option Addr) = some ⟨g, o, none⟩ → g ≠ w.heap.size := fun _ _ h => by cases h
  clear bM4 oM4 bM5 oM5 bR4 oR4 bR5 oR5 hB4 hB5 hbc HXg e0 e5
  generalize fill w5 Bm 2 [.string (ofL A1), .string (ofL t)] = U at *
  generalize ofL A1 = rA at *
  generalize ofL t = rT at *
  go_wp2_with (refine wpList_load_blkW (by rfl) 30 (.tmp 4) rfl Bm rfl ((eFile rA rT).c none 0) _ HM Tryd.underlying30 rfl (by kernel_rfl) ?_)
  refine (c15 (eFile rA rT) none 0 _ hle HLK).mono ?_
  rintro e U1 ⟨⟨str, rfl, hT⟩, hbU⟩
  have HM1 := BlkAt.below HM hbU hMU
  have HR1 := BlkAt.below HR hbU hRU
  have HO1 := OpnAt.below HO hbU hRU
  have hB1 : Below w.heap.size w U1 := hBU.trans (hbU.mono hBU.size)
  have HLK1 := lks_below HLK hbU
  clear HM HR HO HLK hBU hbU
  by_cases he : str.data.toList = s.data.toList
  · have HN : Hid (RES s.data.toList (eFile rA rT) true) := res_yes HX.out hT HNE.out he
    have e2 : str.toList = s.toList := by rw [ByteArray.toList_eq, ByteArray.toList_eq]; exact he
    have e1 : (str.toList == s.toList) = true := by simpa using e2
    clear hT HX he
    go_wp2_with (first | refine wpList_load_blk rfl 30 (.tmp 4) rfl Bm rfl ((eFile rA rT).c none 0) _ HM1 Tryd.underlying30 rfl (by kernel_rfl) ?_ | refine wpList_store_blk rfl 30 (.tmp 2) (.tmp 123) rfl w.heap.size 0 rfl ((eFile rA rT).c none 0) rfl (blk_some HR1 _ rfl) HO1 (N10.c_one _ _ _) (by kernel_rfl) rfl ?_)
    exact fin4 (eFile rA rT) none 0 true HN.out (fun h => by cases h) hle (lks_filo _ HLK1 hAne) rfl rfl rfl HR1 hB1
  · have HN : Hid (RES s.data.toList n10z false) := res_no HX.out hT he
    have e2 : ¬ str.toList = s.toList := by rw [ByteArray.toList_eq, ByteArray.toList_eq]; exact he
    have e1 : (str.toList == s.toList) = false := by simpa using e2
    clear hT HX he
    go_wp2_with (refine wpList_store_blk rfl 30 (.tmp 2) (.tmp 122) rfl w.heap.size 0 rfl zE rfl (blk_some HR1 zE rfl) HO1 (by simp [zE, Value.oneCell']) (by kernel_rfl) rfl ?_)
    exact fin4_no HN.out rfl rfl rfl HR1 hB1
end Go.Proofs.YtejlfpolnddfdaaDoor
namespace Go.Proofs.YtejlfpolnddfdaaDoor
open Go.RowKit
set_option linter.unusedVariables false
set_option maxHeartbeats 16000000 in
set_option maxRecDepth 100000 in
theorem c4_ran (s : ByteArray) (w : World) (h1 : 1 ≤ s.size) (h16 : s.size ≤ 16000) (hw : wordOf ((cutS 10 s.data.toList).getD 0 []) = wRan) :
    Calls Tryd.prog 4 #[.string s] w fun e w' => Is4 s.data.toList w' e ∧ Below w.heap.size w w' := by
  have hB0 : Below w.heap.size w ((w.alloc (.cells zE.toArray 30)).alloc (.cells zE.toArray 30)) := ((Below.refl _ _).alloc (Nat.le_refl _) _).alloc (by simp) _
  have hsl : s.data.toList.length = s.size := by simp
  have HNE : Hid (s.data.toList ≠ []) := fun h => by rw [h] at hsl; simp at hsl; omega
  have hse : (s.toList == []) = false := by
    rw [ByteArray.toList_eq]; exact beq_eq_false_iff_ne.2 HNE.out
  have hse2 : ¬ s.toList = [] := by simpa using hse
  have h16' : decide (16000 < (s.size : Int)) = false := by simp; omega
  go_enter Tryd.func4, Tryd.ntmps4
  go_wp2_with fail
  refine (c9 s 10 _ (by omega)).mono ?_
  rintro e w1 ⟨⟨g2, cp, rfl, hg2, hL1⟩, hb1⟩
  have hz1w : ((w.alloc (.cells zE.toArray 30)).alloc (.cells zE.toArray 30)).heap.size = w.heap.size + 2 := by simp
  have hx1 : Below (w.heap.size + 2) ((w.alloc (.cells zE.toArray 30)).alloc (.cells zE.toArray 30)) w1 := hb1.mono (by simp)
  have hg2a : w.heap.size + 2 ≤ g2 := by have h := hg2; simp at h; omega
  have hz1 : w.heap.size + 2 ≤ w1.heap.size := by have h := hx1.size; rw [hz1w] at h; exact h
  have bR1 : BlkAt w1 w.heap.size zE := ((blk_new w zE 30).below ((Below.refl _ _).alloc (Nat.le_refl _) _) (by simp)).below hx1 (by omega)
  have oR1 : OpnAt w1 w.heap.size := ((opn_new w zE.toArray 30).below ((Below.refl _ _).alloc (Nat.le_refl _) _) (by simp)).below hx1 (by omega)
  have bM1 : BlkAt w1 (w.heap.size + 1) zE := BlkAt.below (by have h := blk_new (w.alloc (.cells zE.toArray 30)) zE 30; simp at h; exact h) hx1 (by omega)
  have oM1 : OpnAt w1 (w.heap.size + 1) := OpnAt.below (by have h := opn_new (w.alloc (.cells zE.toArray 30)) zE.toArray 30; simp at h; exact h) hx1 (by omega)
  have hB1 : Below w.heap.size w w1 := hB0.trans (hx1.mono (by omega))
  have hcl := cut_len 10 s.data.toList
  have hcs := cut_small 10 s.data.toList
  clear hb1 hg2 hz1w hx1
  obtain ⟨Ls, hLs⟩ : ∃ Ls, Ls = cutS 10 s.data.toList := ⟨_, rfl⟩
  rw [← hLs] at hL1 hcl hcs hw ⊢
  have HLS : Hid (cutS 10 s.data.toList = Ls) := hLs.symm
  have HCS : Hid (∀ k, (Ls.getD k []).length ≤ 16000) := fun k => Nat.le_trans (hcs k) (by omega)
  obtain ⟨F, hF⟩ : ∃ F, F = Ls.getD 0 [] := ⟨_, rfl⟩
  have HF : Hid (Ls.getD 0 [] = F) := hF.symm
  have hFl : F.length ≤ 16000 := by rw [hF]; exact HCS.out 0
  rw [← hF] at hw
  have hcl1 : 1 ≤ Ls.length := hcl.1
  have hcl2 : Ls.length ≤ 16001 := by have := hcl.2; omega
  have c0 : w1.cell? ⟨g2, 0, none⟩ = some (.string (ofL F)) := by rw [hF]; exact hL1.2 0 hcl1
  have hg2b := hL1.1
  clear hF hLs hcs hcl
  go_wp2_with fail
  refine (c10o F _ (by omega) 1 (by omega) (by omega)).mono ?_
  rintro e w3 ⟨⟨g3, cp3, rfl, hg3, hl3⟩, hb3⟩
  have hz3 : w1.heap.size ≤ w3.heap.size := hb3.size
  have bR := BlkAt.below bR1 hb3 (by omega)
  have oR := OpnAt.below oR1 hb3 (by omega)
  have bM := BlkAt.below bM1 hb3 (by omega)
  have oM := OpnAt.below oM1 hb3 (by omega)
  have hL3 : Hid (LinesAt w3 g2 Ls) := lines_below hL1 hb3
  have hB3 : Below w.heap.size w w3 := hB1.trans (hb3.mono hB1.size)
  have d0 : w3.cell? ⟨g3, 0, none⟩ = some (.string (ofL (wordOf F))) := hl3.2 0 (by simp [wordsN])
  have hg3b : g3 < w3.heap.size := hl3.1
  have hrs := rest_small F
  have hrN : ofL (restN F 1) = ofL (restOf F) := rfl
  rw [hrN]
  clear hrN hb3 bR1 oR1 bM1 oM1 hL1 hB1 hl3 c0 hB0
  have hMz : w.heap.size + 1 < w3.heap.size := by omega
  have hRB : w.heap.size < w.heap.size + 1 := by omega
  have hg3M : w.heap.size + 1 < g3 := by omega
  have hg2M : w.heap.size + 1 < g2 := by omega
  have hg2z : g2 < w3.heap.size := by omega
  clear hg3 hg2b hg2a hz1 hz3
  generalize w.heap.size + 1 = Bm at *
  have HXg := fun q xs c t hq hs => lsE_4 (l := s.data.toList) (F := F) (q := q) (xs := xs) (c := c) (t := t) (by rw [HLS.out]; exact HF.out) hw hq (by rw [HLS.out]; exact hs)
  have HW : Hid (wordOf F = wRan) := hw
  have hes : ofL (wordOf F) = ⟨#[114, 97, 110]⟩ := by rw [hw]; rfl
  rw [hes] at d0
  clear hw hes
  have k0 := bM 0 _ rfl
  have f0 := oM 0
  have hrs2 := rest_small (restOf F)
  have hrs3 := rest_small (restOf (restOf F))
  go_wp2_with fail
  refine (c10o (restOf F) _ (by omega) 2 (by omega) (by omega)).mono ?_
  rintro e w4 ⟨⟨g4, cp4, rfl, hg4, hl4⟩, hb4⟩
  have hzs : (w3.setCell ⟨Bm, 0, none⟩ (.int .i64 4)).heap.size = w3.heap.size := by simp
  have hz4 : w3.heap.size ≤ w4.heap.size := by have h := hb4.size; rw [hzs] at h; exact h
  have bM4 := BlkAt.below (bM.set 0 (.int .i64 4) (by show 0 < 10; omega)) hb4 (by rw [hzs]; exact hMz)
  have oM4 := OpnAt.below (oM.set ⟨Bm, 0, none⟩ (.int .i64 4)) hb4 (by rw [hzs]; exact hMz)
  have bR4 := BlkAt.below (bR.other ⟨Bm, 0, none⟩ (.int .i64 4) (by show Bm ≠ w.heap.size; omega)) hb4 (by rw [hzs]; omega)
  have oR4 := OpnAt.below (oR.set ⟨Bm, 0, none⟩ (.int .i64 4)) hb4 (by rw [hzs]; omega)
  have hB4 : Below w.heap.size w w4 := (hB3.setCell (by show w.heap.size ≤ Bm; omega) _).trans (hb4.mono (by rw [hzs]; omega))
  have hg4a : w3.heap.size ≤ g4 := by rw [hzs] at hg4; exact hg4
  have hg4b : g4 < w4.heap.size := hl4.1
  have hL4 : Hid (LinesAt w4 g2 Ls) := ⟨by omega, fun i hi => (hb4.cell (p := ⟨g2, i, none⟩) (by rw [hzs]; exact hg2z)).trans (pset (q := ⟨Bm, 0, none⟩) (p := ⟨g2, i, none⟩) (by show Bm ≠ g2; omega) (hL3.out.2 i hi) _)⟩
  have hrs4 := rest_small (restN (restOf F) 1)
  have e0 : w4.cell? ⟨g4, 0, none⟩ = some (.string (ofL (wordOf (restOf F)))) := hl4.2 0 (by simp [wordsN])
  have e1 : w4.cell? ⟨g4, 1, none⟩ = some (.string (ofL (wordOf (restN (restOf F) 1)))) := hl4.2 1 (by simp [wordsN])
  obtain ⟨j0, hj, hy0, hy1, hy2⟩ := info_parts info43
  have hrl := restN_len (restOf F)
  have a1 : (wordOf (restOf F)).length ≤ 16000 := by omega
  have a2 : (wordOf (restN (restOf F) 1)).length ≤ 16000 := by have h := hrl 1; omega
  have a3 : (restN (restOf F) 2).length ≤ 16000 := by have h := hrl 2; omega
  clear hb4 hzs bM oM bR oR hB3 hl4 hg4 hL3 d0 k0 f0 hrs hrs2 hrs3 hrs4 hrl
  generalize restN (restOf F) 2 = A3 at *
  generalize wordOf (restN (restOf F) 1) = A2 at *
  generalize wordOf (restOf F) = A1 at *
  go_wp2_with fail
  refine wp_region_held_drew (S := (fun u => u.cell? ⟨g4, 0, none⟩ = some (.string (ofL A1)) ∧ u.cell? ⟨g4, 1, none⟩ = some (.string (ofL A2)))) (by kernel_rfl) ?_ (fun hHeld => ?_)
  · exact ⟨e0, e1⟩
  refine wpAnyH_take (i := 0) (oi := { dst := some 70, op := Op.move (Operand.tmp 10), type := 36, pos := "l6_log.go:95", after := #[], guard := none }) (v := ?_) rfl (by kernel_rfl) (by kernel_rfl) (by kernel_rfl) (fun _ _ _ h => h) (Or.inl ⟨by rfl, ?_⟩) (by assumption) ?_
  rotate_left
  · intro wq hSw
    (try dsimp only at hSw)
    go_simp
    try with_reducible rfl
  try simp only [Act.put, List.setIfInBounds_toArray, List.set_cons_zero, List.set_cons_succ]
  refine wpAnyH_take (i := 1) (oi := { dst := some 71, op := Op.indexAddr 36 (Operand.tmp 70) (Operand.const (Value.int IntKind.i64 0)), type := 0, pos := "l6_log.go:95", after := #[{ on := 0, ground := Ground.data }], guard := none }) (v := ?_) rfl (by kernel_rfl) (by kernel_rfl) (by kernel_rfl) (fun _ _ _ h => h) (Or.inl ⟨by rfl, ?_⟩) (by assumption) ?_
  rotate_left
  · intro wq hSw
    (try dsimp only at hSw)
    go_simp
    try with_reducible rfl
  try simp only [Act.put, List.setIfInBounds_toArray, List.set_cons_zero, List.set_cons_succ]
  refine wpAnyH_take (i := 2) (oi := { dst := some 72, op := Op.load 9 (Operand.tmp 71), type := 9, pos := "l6_log.go:95", after := #[{ on := 1, ground := Ground.data }], guard := none }) (v := ?_) rfl (by kernel_rfl) (by kernel_rfl) (by kernel_rfl) (fun _ _ _ h => h) (Or.inl ⟨by rfl, ?_⟩) (by assumption) ?_
  rotate_left
  · intro wq hSw
    (try dsimp only at hSw)
    go_simp
    try with_reducible rfl
  try simp only [Act.put, List.setIfInBounds_toArray, List.set_cons_zero, List.set_cons_succ]
  refine wpAnyH_take (i := 3) (oi := { dst := some 73, op := Op.move (Operand.tmp 10), type := 36, pos := "l6_log.go:95", after := #[], guard := none }) (v := ?_) rfl (by kernel_rfl) (by kernel_rfl) (by kernel_rfl) (fun _ _ _ h => h) (Or.inl ⟨by rfl, ?_⟩) (by assumption) ?_
  rotate_left
  · intro wq hSw
    (try dsimp only at hSw)
    go_simp
    try with_reducible rfl
  try simp only [Act.put, List.setIfInBounds_toArray, List.set_cons_zero, List.set_cons_succ]
  refine wpAnyH_take (i := 4) (oi := { dst := some 74, op := Op.indexAddr 36 (Operand.tmp 73) (Operand.const (Value.int IntKind.i64 1)), type := 0, pos := "l6_log.go:95", after := #[{ on := 3, ground := Ground.data }], guard := none }) (v := ?_) rfl (by kernel_rfl) (by kernel_rfl) (by kernel_rfl) (fun _ _ _ h => h) (Or.inl ⟨by rfl, ?_⟩) (by assumption) ?_
  rotate_left
  · intro wq hSw
    (try dsimp only at hSw)
    go_simp
    try with_reducible rfl
  try simp only [Act.put, List.setIfInBounds_toArray, List.set_cons_zero, List.set_cons_succ]
  refine wpAnyH_take (i := 5) (oi := { dst := some 75, op := Op.load 9 (Operand.tmp 74), type := 9, pos := "l6_log.go:95", after := #[{ on := 4, ground := Ground.data }], guard := none }) (v := ?_) rfl (by kernel_rfl) (by kernel_rfl) (by kernel_rfl) (fun _ _ _ h => h) (Or.inl ⟨by rfl, ?_⟩) (by assumption) ?_
  rotate_left
  · intro wq hSw
    (try dsimp only at hSw)
    go_simp
    try with_reducible rfl
  try simp only [Act.put, List.setIfInBounds_toArray, List.set_cons_zero, List.set_cons_succ]
  refine wpAnyH_take (i := 6) (oi := { dst := some 76, op := Op.move (Operand.tmp 11), type := 9, pos := "l6_log.go:95", after := #[], guard := none }) (v := ?_) rfl (by kernel_rfl) (by kernel_rfl) (by kernel_rfl) (fun _ _ _ h => h) (Or.inl ⟨by rfl, ?_⟩) (by assumption) ?_
  rotate_left
  · intro wq hSw
    (try dsimp only at hSw)
    go_simp
    try with_reducible rfl
  try simp only [Act.put, List.setIfInBounds_toArray, List.set_cons_zero, List.set_cons_succ]
  refine wpAnyH_ready (rs := [7]) (by kernel_rfl) (by simp) ?_
  refine AllReadyH.cons (o := { dst := some 77, op := Op.call { callee := Callee.value (Operand.func 12), args := #[Operand.tmp 76], argTypes := #[9] }, type := 9, pos := "l6_log.go:95", after := #[{ on := 6, ground := Ground.data }], guard := none }) rfl (fun K hK => ?_) AllReadyH.nil
  go_simp
  refine (c12l A3 _ (by omega)).mono ?_
  rintro e w5 ⟨⟨q, rfl, htl, htq⟩, hbn⟩
  have hbc : Below w4.heap.size w4 w5 := ((Below.refl _ _).drew).trans hbn
  have HTQ : Hid (∀ p, A3 = quoteL p → q = p) := htq
  clear hbn htq
  go_wp2_with fail
  clear hHeld
  refine hK.out _ _ ?_ (fun hHeld => ?_)
  · exact ⟨(hbc.cell (p := ⟨g4, 0, none⟩) hg4b).trans e0, (hbc.cell (p := ⟨g4, 1, none⟩) hg4b).trans e1⟩
  clear hK K
  try simp only [Act.put, List.setIfInBounds_toArray, List.set_cons_zero, List.set_cons_succ]
  refine wpAnyH_take (i := 8) (oi := { dst := some 78, op := Op.build 25 #[(0, Operand.tmp 72), (1, Operand.tmp 75), (2, Operand.tmp 77)], type := 25, pos := "l6_log.go:95", after := #[{ on := 2, ground := Ground.data }, { on := 5, ground := Ground.data }, { on := 7, ground := Ground.data }], guard := none }) (v := ?_) rfl (by kernel_rfl) (by kernel_rfl) (by kernel_rfl) (fun _ _ _ h => h) (Or.inl ⟨by rfl, ?_⟩) (by assumption) ?_
  rotate_left
  · intro wq hSw
    (try dsimp only at hSw)
    go_simp
    try with_reducible rfl
  try simp only [Act.put, List.setIfInBounds_toArray, List.set_cons_zero, List.set_cons_succ]
  refine wpAnyH_take (i := 9) (oi := { dst := some 79, op := Op.fieldAddr 30 (Operand.tmp 4) 3, type := 0, pos := "l6_log.go:95", after := #[{ on := 0, ground := Ground.phase }, { on := 1, ground := Ground.phase }, { on := 2, ground := Ground.phase }, { on := 3, ground := Ground.phase }, { on := 4, ground := Ground.phase }, { on := 5, ground := Ground.phase }, { on := 6, ground := Ground.phase }, { on := 7, ground := Ground.phase }, { on := 8, ground := Ground.phase }], guard := none }) (v := ?_) rfl (by kernel_rfl) (by kernel_rfl) (by kernel_rfl) (fun _ _ _ h => h) (Or.inl ⟨by rfl, ?_⟩) (by assumption) ?_
  rotate_left
  · intro wq hSw
    (try dsimp only at hSw)
    go_simp
    try with_reducible rfl
  try simp only [Act.put, List.setIfInBounds_toArray, List.set_cons_zero, List.set_cons_succ]
  have bM5 := BlkAt.below bM4 hbc (by omega)
  have oM5 := OpnAt.below oM4 hbc (by omega)
  have e5 : w5.cell? ⟨g4, 0, none⟩ = some (.string (ofL A1)) := (hbc.cell (p := ⟨g4, 0, none⟩) hg4b).trans e0
  have e6 : w5.cell? ⟨g4, 1, none⟩ = some (.string (ofL A2)) := (hbc.cell (p := ⟨g4, 1, none⟩) hg4b).trans e1
  refine wpAnyH_ready (rs := [10]) (by kernel_rfl) (by simp) ?_
  refine AllReadyH.cons (o := { dst := none, op := Op.store 25 (Operand.tmp 79) (Operand.tmp 78), type := 0, pos := "l6_log.go:95", after := #[{ on := 9, ground := Ground.data }, { on := 8, ground := Ground.data }, { on := 7, ground := Ground.chain }, { on := 0, ground := Ground.phase }, { on := 1, ground := Ground.phase }, { on := 2, ground := Ground.phase }, { on := 3, ground := Ground.phase }, { on := 4, ground := Ground.phase }, { on := 5, ground := Ground.phase }, { on := 6, ground := Ground.phase }, { on := 7, ground := Ground.phase }, { on := 8, ground := Ground.phase }], guard := none }) rfl (fun K hK => ?_) AllReadyH.nil
  refine step_store_blk rfl 25 (.tmp 79) (.tmp 78) rfl Bm 4 rfl [.string (ofL A1), .string (ofL A2), .string (ofL q)] rfl (fun i hi => by rcases i with _ | _ | _ | i; exact (by rw [bM5 4 _ rfl]; rfl); exact (by rw [bM5 5 _ rfl]; rfl); exact (by rw [bM5 6 _ rfl]; rfl); simp at hi; omega) oM5 (by simp [Value.oneCell']) (by kernel_rfl) rfl ?_
  clear hHeld
  refine hK.out _ _ ?_ (fun hHeld => ?_)
  · exact ⟨(cell_fill _ 4 ⟨g4, 0, none⟩ (by show g4 ≠ Bm; omega)).trans e5, (cell_fill _ 4 ⟨g4, 1, none⟩ (by show g4 ≠ Bm; omega)).trans e6⟩
  clear hK K
  try simp only [Act.put, List.setIfInBounds_toArray, List.set_cons_zero, List.set_cons_succ]
  refine wpAnyH_done (by kernel_rfl) ?_ _
  clear hHeld
  have hz5 : w4.heap.size ≤ w5.heap.size := hbc.size
  have bR5' := BlkAt.below bR4 hbc (by omega)
  have oR5' := OpnAt.below oR4 hbc (by omega)
  have hB5' : Below w.heap.size w w5 := hB4.trans (hbc.mono hB4.size)
  have hL5' := lines_below hL4.out hbc
  have bM6 : BlkAt (fill w5 Bm 4 [.string (ofL A1), .string (ofL A2), .string (ofL q)]) Bm [.int .i64 4, .int .i64 0, .string ⟨#[]⟩, .string ⟨#[]⟩, .string (ofL A1), .string (ofL A2), .string (ofL q), .slice none 0 0, .int .i64 0, .string ⟨#[]⟩] := BlkAt.fill (B := Bm) [.string (ofL A1), .string (ofL A2), .string (ofL q)] [.int .i64 4, .int .i64 0, .string ⟨#[]⟩, .string ⟨#[]⟩] [.string ⟨#[]⟩, .string ⟨#[]⟩, .string ⟨#[]⟩] [.slice none 0 0, .int .i64 0, .string ⟨#[]⟩] 4 bM5 rfl rfl
  have oM6 : OpnAt (fill w5 Bm 4 [.string (ofL A1), .string (ofL A2), .string (ofL q)]) Bm := OpnAt.fill _ 4 oM5
  have bR6 : BlkAt (fill w5 Bm 4 [.string (ofL A1), .string (ofL A2), .string (ofL q)]) w.heap.size zE := BlkAt.fillO (by omega) _ 4 bR5'
  have oR6 : OpnAt (fill w5 Bm 4 [.string (ofL A1), .string (ofL A2), .string (ofL q)]) w.heap.size := OpnAt.fill _ 4 oR5'
  have hB6 : Below w.heap.size w (fill w5 Bm 4 [.string (ofL A1), .string (ofL A2), .string (ofL q)]) := below_fill (by omega) _ 4 hB5'
  have hz6 : (fill w5 Bm 4 [.string (ofL A1), .string (ofL A2), .string (ofL q)]).heap.size = w5.heap.size := size_fill _ _
  have hL6 : LinesAt (fill w5 Bm 4 [.string (ofL A1), .string (ofL A2), .string (ofL q)]) g2 Ls := ⟨by rw [hz6]; exact hL5'.1, fun i hi => (cell_fill _ 4 ⟨g2, i, none⟩ (by show g2 ≠ Bm; omega)).trans (hL5'.2 i hi)⟩
  have hg2w : g2 < w5.heap.size := by omega
  have hMw : Bm < w5.heap.size := by omega
  rw [← hz6] at hg2w hMw
  clear hz6 hbc bM4 oM4 bM5 oM5 bR4 oR4 bR5' oR5' hB4 hB5' hL5' hL4 e0 e1 e5 e6
  generalize fill w5 Bm 4 [.string (ofL A1), .string (ofL A2), .string (ofL q)] = w6 at *
  obtain ⟨B5, hB5e⟩ : ∃ B5, B5 = w6.heap.size := ⟨_, rfl⟩
  have hMB : Bm < B5 := by omega
  have hgB : g2 < B5 := by omega
  have hRB5 : w.heap.size < B5 := by omega
  clear hg4a hg4b hz4 hz5 hMz hg2z hg3b hg3M
  go_wp2_with fail
  go_loopw [12] (fun i wr => ∃ (k : Nat) (xs : List L4) (v : Value) (c : Int) (t : ByteArray), (1 ≤ k ∧ k ≤ Ls.length ∧ xs.length ≤ k) ∧ i = .int .i64 k ∧ wr.ownsRow B5 43 4 v xs.length (lkC xs) ∧ BlkAt wr Bm [.int .i64 4, .int .i64 0, .string ⟨#[]⟩, .string ⟨#[]⟩, .string (ofL A1), .string (ofL A2), .string (ofL q), v, .int .i64 c, .string t] ∧ OpnAt wr Bm ∧ BlkAt wr w.heap.size zE ∧ OpnAt wr w.heap.size ∧ LinesAt wr g2 Ls ∧ Below w.heap.size w wr ∧ B5 ≤ wr.heap.size ∧ Hid (RnSo Ls k xs c t ∧ (∀ j, (xs.getD j l4z).le 1048576) ∧ t.size ≤ 1048576)) (fun i _ => Ls.length - (intOf i).toNat)
  case atStart => exact ⟨1, [], .slice none 0 0, 0, ⟨#[]⟩, ⟨Nat.le_refl _, by omega, Nat.zero_le _⟩, rfl, ⟨rfl, .inl ⟨rfl, rfl⟩⟩, bM6, oM6, bR6, oR6, hL6, hB6, by omega, ⟨rn_start _ _ _, fun _ => ⟨Nat.zero_le _, Nat.zero_le _⟩, Nat.zero_le _⟩⟩
  case round =>
    clear bM6 oM6 bR6 oR6 hL6 hB6 hB5e hg2w hMw
    obtain ⟨k, xs, v, c, t, ⟨hk1, hk2, hk3⟩, rfl, hown, bM, oM, bR, oR, hL, hB, hz, hso⟩ := hrel
    by_cases hlt : k < Ls.length
    · have ck : wr.cell? ⟨g2, k, none⟩ = some (.string (ofL (Ls.getD k []))) := hL.2 k hlt
      have hT := HCS.out k
      have HST1 := fun x h => rn_look (x := x) hso.out.1 hk1 hlt h
      have HST2 := fun x c2 t2 h h5 hr => rn_res (x := x) (c2 := c2) (t2 := t2) hso.out.1 hk1 hlt h h5 hr
      have HST3 := fun x h h5 => rn_skip (x := x) hso.out.1 hk1 hlt h h5
      have hxso := hso.out.2
      clear hso
      generalize Ls.getD k [] = T at *
      have HST1 : Hid _ := HST1
      have HST2 : Hid _ := HST2
      have HST3 : Hid _ := HST3
      have HXS : Hid _ := hxso
      clear hxso
      go_wp2_with fail
      refine (c13g T _ hT).mono ?_
      rintro e w7 ⟨⟨x, ok, rfl, hls, hxle⟩, hb7⟩
      have HLL : Hid (LsLk T x ok) := hls
      have hown7 : w7.ownsRow B5 43 4 v xs.length (lkC xs) := own_under hown hb7
      have hz7 : wr.heap.size ≤ w7.heap.size := hb7.size
      have hb7' : Below B5 wr w7 := hb7.mono hz
      have hB7 : Below w.heap.size w w7 := hB.trans (hb7.mono hB.size)
      have oa : ∀ o, Below B5 wr (w7.alloc o) := fun o => hb7'.alloc (by omega) o
      clear hls hb7 hown
      unfold L4.v
      cases ok
      · have ck7 : ∀ o, (w7.alloc o).cell? ⟨g2, k, none⟩ = some (.string (ofL T)) := fun o => ((oa o).cell (p := ⟨g2, k, none⟩) hgB).trans ck
        by_cases h5 : 5 < T.length
        · have h5' : decide ((5 : Int) < ((ofL T).size : Int)) = true := by rw [ofL_size]; simp; omega
          have h5n : 5 ≤ (ofL T).size := by rw [ofL_size]; omega
          have hex : (ofL T).extract 5 (ofL T).size = ofL (T.drop 5) := ext_ofL (by rw [ext_list, ofL_size, ofL_list, List.take_of_length_le (by omega)])
          go_wp2_with fail
          refine (c14 (T.drop 5) _ (by rw [List.length_drop]; omega)).mono ?_
          rintro e w8 ⟨⟨c2, t2, rfl, hr8, ht8⟩, hb8⟩
          have HSO : Hid (RnSo Ls (k + 1) xs c2 t2 ∧ (∀ j, (xs.getD j l4z).le 1048576) ∧ t2.size ≤ 1048576) := ⟨HST2.out x c2 t2 HLL.out h5 hr8, HXS.out.1, ht8⟩
          have hb8' : Below B5 wr w8 := (oa _).trans (hb8.mono (by simp; omega))
          have hown8 := own_under (hown7.alloc _) hb8
          have hB8 : Below w.heap.size w w8 := (hB7.alloc hB7.size _).trans (hb8.mono (by have := hB7.size; simp; omega))
          have hz8 : wr.heap.size ≤ w8.heap.size := by have h := hb8.size; simp at h; omega
          have bM8 := bM.below hb8' hMB
          have oM8 := oM.below hb8' hMB
          have k8 := bM8 8 _ rfl
          have f8 := oM8 8
          have k9 := bM8 9 _ rfl
          have f9 := oM8 9
          clear hr8 hb8 HST1 HST2 HST3
          go_wp2
          go_roundw
          case rel =>
            exact ⟨k + 1, xs, v, c2, t2, ⟨by omega, by omega, by omega⟩, by go_num, own_set (own_set hown8 ⟨Bm, 8, none⟩ _ hMB) ⟨Bm, 9, none⟩ _ hMB, (bM8.set 8 (.int .i64 c2) (by show 8 < 10; omega)).set 9 (.string t2) (by show 9 < 10; omega), (oM8.set _ _).set _ _, ((bR.below hb8' hRB5).other _ _ (by show Bm ≠ w.heap.size; omega)).other _ _ (by show Bm ≠ w.heap.size; omega), ((oR.below hb8' hRB5).set _ _).set _ _, ⟨by have := hL.1; simp; omega, fun i hi => pset (q := ⟨Bm, 9, none⟩) (p := ⟨g2, i, none⟩) (by show Bm ≠ g2; omega) (pset (q := ⟨Bm, 8, none⟩) (p := ⟨g2, i, none⟩) (by show Bm ≠ g2; omega) ((hb8'.cell (p := ⟨g2, i, none⟩) hgB).trans (hL.2 i hi)) _) _⟩, (hB8.setCell (by show w.heap.size ≤ Bm; omega) _).setCell (by show w.heap.size ≤ Bm; omega) _, by simp; omega, HSO⟩
          case measure => simp [intOf]; omega
        · have h5' : decide ((5 : Int) < ((ofL T).size : Int)) = false := by rw [ofL_size]; simp; omega
          have HSO : Hid (RnSo Ls (k + 1) xs c t ∧ (∀ j, (xs.getD j l4z).le 1048576) ∧ t.size ≤ 1048576) := ⟨HST3.out x HLL.out h5, HXS.out⟩
          clear HST1 HST2 HST3 h5
          go_wp2
          go_roundw
          case rel => exact ⟨k + 1, xs, v, c, t, ⟨by omega, by omega, by omega⟩, by go_num, hown7.alloc _, bM.below (oa _) hMB, oM.below (oa _) hMB, bR.below (oa _) hRB5, oR.below (oa _) hRB5, ⟨by have := hL.1; simp; omega, fun i hi => ((oa _).cell (p := ⟨g2, i, none⟩) hgB).trans (hL.2 i hi)⟩, hB7.alloc hB7.size _, by simp; omega, HSO⟩
          case measure => simp [intOf]; omega
      · have HSO : Hid (RnSo Ls (k + 1) (xs ++ [x]) c t ∧ (∀ j, ((xs ++ [x]).getD j l4z).le 1048576) ∧ t.size ≤ 1048576) := ⟨HST1.out x HLL.out, fun j => by
          rcases Nat.lt_or_ge j xs.length with hj | hj
          · have : (xs ++ [x]).getD j l4z = xs.getD j l4z := by
              simp only [List.getD_eq_getElem?_getD]
              rw [List.getElem?_append_left hj]
            rw [this]; exact HXS.out.1 j
          · by_cases hj2 : j = xs.length
            · have : (xs ++ [x]).getD j l4z = x := by
                simp only [List.getD_eq_getElem?_getD]
                rw [List.getElem?_append_right hj, hj2]; simp
              rw [this]; exact hxle
            · have : (xs ++ [x]).getD j l4z = l4z := by
                simp only [List.getD_eq_getElem?_getD]
                rw [List.getElem?_eq_none (by simp; omega)]; rfl
              rw [this]; exact ⟨Nat.zero_le _, Nat.zero_le _⟩, HXS.out.2⟩
        clear HST1 HST2 HST3
        have k7a := fun o => bM.below (oa o) hMB 7 _ rfl
        have oaa : ∀ o o', Below B5 wr ((w7.alloc o).alloc o') := fun o o' => (oa o).alloc (by simp; omega) o'
        go_wp2_with (at_builtin; refine wpList_append_own _ rfl _ _ 26 rfl B5 43 j0 (.agg #[.bool false, .string ⟨#[]⟩, .int .i64 0, .string ⟨#[]⟩]) 4 48 Tryd.underlying26 hj hy0 hy1 hy2 rfl (by decide) _ _ _ rfl ((hown7.alloc _).alloc _) ⟨w7.heap.size + 1, 0, none⟩ 1 1 [_, _, _, _] rfl rfl (row4g (by simp) _ _ _ _ _) (by intro u hu; simp at hu; rcases hu with rfl | rfl | rfl | rfl <;> rfl) (by unfold maxLen; omega) (by omega) (by simp; omega) ?_; intro v' w8 hown8 hgrow _; have hb8 : Below B5 wr w8 := (oaa _ _).grown hgrow (by simp; omega) (fun j hj => (hown7.lt j hj).1); have hB8 : Below w.heap.size w w8 := ((hB7.alloc hB7.size _).alloc (by simp; omega) _).grown hgrow (by simp; omega) (fun j hj => by have := (hown7.lt j hj).1; omega); have hz8 : w7.heap.size ≤ w8.heap.size := (by have := hgrow.size; simp at this; omega); clear hgrow; obtain ⟨g8, cp8, hv8⟩ := own_formF hown8 (by omega); subst hv8; have bM8 := bM.below hb8 hMB; have oM8 := oM.below hb8 hMB; have k7 := bM8 7 _ rfl; have f7 := oM8 7)
        go_roundw
        case rel =>
          refine ⟨k + 1, xs ++ [x], .slice (some ⟨g8, 0, none⟩) (xs.length + 1) cp8, c, t, ⟨by omega, by omega, by simp; omega⟩, by go_num, ?_, ?_, oM8.set _ _, (bR.below hb8 hRB5).other _ _ (by show Bm ≠ w.heap.size; omega), (oR.below hb8 hRB5).set _ _, ⟨by have := hL.1; simp; omega, fun i hi => pset (q := ⟨Bm, 7, none⟩) (p := ⟨g2, i, none⟩) (by show Bm ≠ g2; omega) ((hb8.cell (p := ⟨g2, i, none⟩) hgB).trans (hL.2 i hi)) _⟩, hB8.setCell (by show w.heap.size ≤ Bm; omega) _, by simp; omega, HSO⟩
          · rw [List.length_append, lkC_snoc]
            exact own_set hown8 ⟨Bm, 7, none⟩ _ hMB
          · exact bM8.set 7 _ (by show 7 < 10; omega)
        case measure => simp [intOf]; omega
    · obtain rfl : k = Ls.length := by omega
      have HX : Hid (LsE s.data.toList (eRan ⟨ofL A1, ofL A2, ofL q⟩ xs c t)) := HXg q xs c t HTQ.out hso.out.1
      have hxl := hso.out.2.1
      have htx := hso.out.2.2
      obtain ⟨ao, cc, hv, hlk⟩ := own_lks hown rfl
      subst hv
      have hAne : ∀ g o, ao = some ⟨g, o, none⟩ → g ≠ w.heap.size := fun g o h => by
        subst h
        have := (hown.lt g rfl).1
        omega
      have HM : BlkAt wr Bm ((eRan ⟨ofL A1, ofL A2, ofL q⟩ xs c t).c ao cc) := bM
      have HR := bR
      have HO := oR
      have hBU := hB
      have hMU : Bm < wr.heap.size := by omega
      have hRU : w.heap.size < wr.heap.size := by omega
      have HLK : LksAt wr ao (eRan ⟨ofL A1, ofL A2, ofL q⟩ xs c t).ls := hlk.at'
      have hle : (eRan ⟨ofL A1, ofL A2, ofL q⟩ xs c t).le 1048576 := ⟨Nat.zero_le _, Nat.zero_le _, ⟨by show (ofL A1).size ≤ 1048576; rw [ofL_size]; omega, by show (ofL A2).size ≤ 1048576; rw [ofL_size]; omega, by show (ofL q).size ≤ 1048576; rw [ofL_size]; omega⟩, ⟨by show xs.length ≤ 1048576; omega, hxl⟩, htx⟩
      clear hso hown hlk bM oM bR oR hL hB HXg hxl htx
      generalize eRan ⟨ofL A1, ofL A2, ofL q⟩ xs c t = XX at *
      go_wp2_with (refine wpList_load_blkW (by rfl) 30 (.tmp 4) rfl Bm rfl ((XX).c ao cc) _ HM Tryd.underlying30 rfl (by kernel_rfl) ?_)
      refine (c15 (XX) ao cc _ hle HLK).mono ?_
      rintro e U1 ⟨⟨str, rfl, hT⟩, hbU⟩
      have HM1 := BlkAt.below HM hbU hMU
      have HR1 := BlkAt.below HR hbU hRU
      have HO1 := OpnAt.below HO hbU hRU
      have hB1 : Below w.heap.size w U1 := hBU.trans (hbU.mono hBU.size)
      have HLK1 := lks_below HLK hbU
      clear HM HR HO HLK hBU hbU
      by_cases he : str.data.toList = s.data.toList
      · have HN : Hid (RES s.data.toList (XX) true) := res_yes HX.out hT HNE.out he
        have e2 : str.toList = s.toList := by rw [ByteArray.toList_eq, ByteArray.toList_eq]; exact he
        have e1 : (str.toList == s.toList) = true := by simpa using e2
        clear hT HX he
        go_wp2_with (first | refine wpList_load_blk rfl 30 (.tmp 4) rfl Bm rfl ((XX).c ao cc) _ HM1 Tryd.underlying30 rfl (by kernel_rfl) ?_ | refine wpList_store_blk rfl 30 (.tmp 2) (.tmp 123) rfl w.heap.size 0 rfl ((XX).c ao cc) rfl (blk_some HR1 _ rfl) HO1 (N10.c_one _ _ _) (by kernel_rfl) rfl ?_)
        exact fin4 (XX) ao cc true HN.out (fun h => by cases h) hle (lks_filo _ HLK1 hAne) rfl rfl rfl HR1 hB1
      · have HN : Hid (RES s.data.toList n10z false) := res_no HX.out hT he
        have e2 : ¬ str.toList = s.toList := by rw [ByteArray.toList_eq, ByteArray.toList_eq]; exact he
        have e1 : (str.toList == s.toList) = false := by simpa using e2
        clear hT HX he
        go_wp2_with (refine wpList_store_blk rfl 30 (.tmp 2) (.tmp 122) rfl w.heap.size 0 rfl zE rfl (blk_some HR1 zE rfl) HO1 (by simp [zE, Value.oneCell']) (by kernel_rfl) rfl ?_)
        exact fin4_no HN.out rfl rfl rfl HR1 hB1
end Go.Proofs.YtejlfpolnddfdaaDoor
namespace Go.Proofs.YtejlfpolnddfdaaDoor
open Go.RowKit
set_option linter.unusedVariables false
set_option maxHeartbeats 16000000 in
set_option maxRecDepth 100000 in
theorem c4_none (s : ByteArray) (w : World) (h1 : 1 ≤ s.size) (h16 : s.size ≤ 16000) (hw : wordOf ((cutS 10 s.data.toList).getD 0 []) ≠ wRan ∧ wordOf ((cutS 10 s.data.toList).getD 0 []) ≠ wEpoch ∧ wordOf ((cutS 10 s.data.toList).getD 0 []) ≠ wFile ∧ wordOf ((cutS 10 s.data.toList).getD 0 []) ≠ wDrop ∧ wordOf ((cutS 10 s.data.toList).getD 0 []) ≠ wClear) :
    Calls Tryd.prog 4 #[.string s] w fun e w' => Is4 s.data.toList w' e ∧ Below w.heap.size w w' := by
  have hB0 : Below w.heap.size w ((w.alloc (.cells zE.toArray 30)).alloc (.cells zE.toArray 30)) := ((Below.refl _ _).alloc (Nat.le_refl _) _).alloc (by simp) _
  have hsl : s.data.toList.length = s.size := by simp
  have HNE : Hid (s.data.toList ≠ []) := fun h => by rw [h] at hsl; simp at hsl; omega
  have hse : (s.toList == []) = false := by
    rw [ByteArray.toList_eq]; exact beq_eq_false_iff_ne.2 HNE.out
  have hse2 : ¬ s.toList = [] := by simpa using hse
  have h16' : decide (16000 < (s.size : Int)) = false := by simp; omega
  go_enter Tryd.func4, Tryd.ntmps4
  go_wp2_with fail
  refine (c9 s 10 _ (by omega)).mono ?_
  rintro e w1 ⟨⟨g2, cp, rfl, hg2, hL1⟩, hb1⟩
  have hz1w : ((w.alloc (.cells zE.toArray 30)).alloc (.cells zE.toArray 30)).heap.size = w.heap.size + 2 := by simp
  have hx1 : Below (w.heap.size + 2) ((w.alloc (.cells zE.toArray 30)).alloc (.cells zE.toArray 30)) w1 := hb1.mono (by simp)
  have hg2a : w.heap.size + 2 ≤ g2 := by have h := hg2; simp at h; omega
  have hz1 : w.heap.size + 2 ≤ w1.heap.size := by have h := hx1.size; rw [hz1w] at h; exact h
  have bR1 : BlkAt w1 w.heap.size zE := ((blk_new w zE 30).below ((Below.refl _ _).alloc (Nat.le_refl _) _) (by simp)).below hx1 (by omega)
  have oR1 : OpnAt w1 w.heap.size := ((opn_new w zE.toArray 30).below ((Below.refl _ _).alloc (Nat.le_refl _) _) (by simp)).below hx1 (by omega)
  have bM1 : BlkAt w1 (w.heap.size + 1) zE := BlkAt.below (by have h := blk_new (w.alloc (.cells zE.toArray 30)) zE 30; simp at h; exact h) hx1 (by omega)
  have oM1 : OpnAt w1 (w.heap.size + 1) := OpnAt.below (by have h := opn_new (w.alloc (.cells zE.toArray 30)) zE.toArray 30; simp at h; exact h) hx1 (by omega)
  have hB1 : Below w.heap.size w w1 := hB0.trans (hx1.mono (by omega))
  have hcl := cut_len 10 s.data.toList
  have hcs := cut_small 10 s.data.toList
  clear hb1 hg2 hz1w hx1
  obtain ⟨Ls, hLs⟩ : ∃ Ls, Ls = cutS 10 s.data.toList := ⟨_, rfl⟩
  rw [← hLs] at hL1 hcl hcs hw ⊢
  have HLS : Hid (cutS 10 s.data.toList = Ls) := hLs.symm
  have HCS : Hid (∀ k, (Ls.getD k []).length ≤ 16000) := fun k => Nat.le_trans (hcs k) (by omega)
  obtain ⟨F, hF⟩ : ∃ F, F = Ls.getD 0 [] := ⟨_, rfl⟩
  have HF : Hid (Ls.getD 0 [] = F) := hF.symm
  have hFl : F.length ≤ 16000 := by rw [hF]; exact HCS.out 0
  rw [← hF] at hw
  have hcl1 : 1 ≤ Ls.length := hcl.1
  have hcl2 : Ls.length ≤ 16001 := by have := hcl.2; omega
  have c0 : w1.cell? ⟨g2, 0, none⟩ = some (.string (ofL F)) := by rw [hF]; exact hL1.2 0 hcl1
  have hg2b := hL1.1
  clear hF hLs hcs hcl
  go_wp2_with fail
  refine (c10o F _ (by omega) 1 (by omega) (by omega)).mono ?_
  rintro e w3 ⟨⟨g3, cp3, rfl, hg3, hl3⟩, hb3⟩
  have hz3 : w1.heap.size ≤ w3.heap.size := hb3.size
  have bR := BlkAt.below bR1 hb3 (by omega)
  have oR := OpnAt.below oR1 hb3 (by omega)
  have bM := BlkAt.below bM1 hb3 (by omega)
  have oM := OpnAt.below oM1 hb3 (by omega)
  have hL3 : Hid (LinesAt w3 g2 Ls) := lines_below hL1 hb3
  have hB3 : Below w.heap.size w w3 := hB1.trans (hb3.mono hB1.size)
  have d0 : w3.cell? ⟨g3, 0, none⟩ = some (.string (ofL (wordOf F))) := hl3.2 0 (by simp [wordsN])
  have hg3b : g3 < w3.heap.size := hl3.1
  have hrs := rest_small F
  have hrN : ofL (restN F 1) = ofL (restOf F) := rfl
  rw [hrN]
  clear hrN hb3 bR1 oR1 bM1 oM1 hL1 hB1 hl3 c0 hB0
  have hMz : w.heap.size + 1 < w3.heap.size := by omega
  have hRB : w.heap.size < w.heap.size + 1 := by omega
  have hg3M : w.heap.size + 1 < g3 := by omega
  have hg2M : w.heap.size + 1 < g2 := by omega
  have hg2z : g2 < w3.heap.size := by omega
  clear hg3 hg2b hg2a hz1 hz3
  generalize w.heap.size + 1 = Bm at *
  have HX : Hid (LsE s.data.toList n10z) := lsE_none _ (by rw [HLS.out, HF.out]; exact hw.1) (by rw [HLS.out, HF.out]; exact hw.2.1) (by rw [HLS.out, HF.out]; exact hw.2.2.1) (by rw [HLS.out, HF.out]; exact hw.2.2.2.1) (by rw [HLS.out, HF.out]; exact hw.2.2.2.2)
  have n4 : ((ofL (wordOf F)).toList == [114, 97, 110]) = false := by
    rw [ByteArray.toList_eq, ofL_list]; exact beq_eq_false_iff_ne.2 hw.1
  have m4 : ¬ (ofL (wordOf F)).toList = [114, 97, 110] := by simpa using n4
  have n1 : ((ofL (wordOf F)).toList == [101, 112, 111, 99, 104]) = false := by
    rw [ByteArray.toList_eq, ofL_list]; exact beq_eq_false_iff_ne.2 hw.2.1
  have m1 : ¬ (ofL (wordOf F)).toList = [101, 112, 111, 99, 104] := by simpa using n1
  have n2 : ((ofL (wordOf F)).toList == [102, 105, 108, 101]) = false := by
    rw [ByteArray.toList_eq, ofL_list]; exact beq_eq_false_iff_ne.2 hw.2.2.1
  have m2 : ¬ (ofL (wordOf F)).toList = [102, 105, 108, 101] := by simpa using n2
  have n3 : ((ofL (wordOf F)).toList == [100, 114, 111, 112]) = false := by
    rw [ByteArray.toList_eq, ofL_list]; exact beq_eq_false_iff_ne.2 hw.2.2.2.1
  have m3 : ¬ (ofL (wordOf F)).toList = [100, 114, 111, 112] := by simpa using n3
  have n5 : ((ofL (wordOf F)).toList == [99, 108, 101, 97, 114]) = false := by
    rw [ByteArray.toList_eq, ofL_list]; exact beq_eq_false_iff_ne.2 hw.2.2.2.2
  have m5 : ¬ (ofL (wordOf F)).toList = [99, 108, 101, 97, 114] := by simpa using n5
  clear hw
  have HM : BlkAt w3 Bm (n10z.c none 0) := bM
  have HR := bR
  have HO := oR
  have hBU := hB3
  have hMU := hMz
  have hRU : w.heap.size < w3.heap.size := by omega
  have HLK : LksAt w3 none n10z.ls := .inl rfl
  have hle := n10z_le
  have hAne : ∀ g o, (none : Option Addr) = some ⟨g, o, none⟩ → g ≠ w.heap.size := fun _ _ h => by cases h
  generalize ofL (wordOf F) = wd at *
  go_wp2_with (refine wpList_load_blkW (by rfl) 30 (.tmp 4) rfl Bm rfl ((n10z).c none 0) _ HM Tryd.underlying30 rfl (by kernel_rfl) ?_)
  refine (c15 (n10z) none 0 _ hle HLK).mono ?_
  rintro e U1 ⟨⟨str, rfl, hT⟩, hbU⟩
  have HM1 := BlkAt.below HM hbU hMU
  have HR1 := BlkAt.below HR hbU hRU
  have HO1 := OpnAt.below HO hbU hRU
  have hB1 : Below w.heap.size w U1 := hBU.trans (hbU.mono hBU.size)
  have HLK1 := lks_below HLK hbU
  clear HM HR HO HLK hBU hbU
  by_cases he : str.data.toList = s.data.toList
  · have HN : Hid (RES s.data.toList (n10z) true) := res_yes HX.out hT HNE.out he
    have e2 : str.toList = s.toList := by rw [ByteArray.toList_eq, ByteArray.toList_eq]; exact he
    have e1 : (str.toList == s.toList) = true := by simpa using e2
    clear hT HX he
    go_wp2_with (first | refine wpList_load_blk rfl 30 (.tmp 4) rfl Bm rfl ((n10z).c none 0) _ HM1 Tryd.underlying30 rfl (by kernel_rfl) ?_ | refine wpList_store_blk rfl 30 (.tmp 2) (.tmp 123) rfl w.heap.size 0 rfl ((n10z).c none 0) rfl (blk_some HR1 _ rfl) HO1 (N10.c_one _ _ _) (by kernel_rfl) rfl ?_)
    exact fin4 (n10z) none 0 true HN.out (fun h => by cases h) hle (lks_filo _ HLK1 hAne) rfl rfl rfl HR1 hB1
  · have HN : Hid (RES s.data.toList n10z false) := res_no HX.out hT he
    have e2 : ¬ str.toList = s.toList := by rw [ByteArray.toList_eq, ByteArray.toList_eq]; exact he
    have e1 : (str.toList == s.toList) = false := by simpa using e2
    clear hT HX he
    go_wp2_with (refine wpList_store_blk rfl 30 (.tmp 2) (.tmp 122) rfl w.heap.size 0 rfl zE rfl (blk_some HR1 zE rfl) HO1 (by simp [zE, Value.oneCell']) (by kernel_rfl) rfl ?_)
    exact fin4_no HN.out rfl rfl rfl HR1 hB1
end Go.Proofs.YtejlfpolnddfdaaDoor
namespace Go.Proofs.YtejlfpolnddfdaaDoor
open Go.RowKit
set_option linter.unusedVariables false
set_option maxHeartbeats 16000000 in
set_option maxRecDepth 100000 in
theorem c4_clear (s : ByteArray) (w : World) (h1 : 1 ≤ s.size) (h16 : s.size ≤ 16000) (hw : wordOf ((cutS 10 s.data.toList).getD 0 []) = wClear) :
    Calls Tryd.prog 4 #[.string s] w fun e w' => Is4 s.data.toList w' e ∧ Below w.heap.size w w' := by
  have hB0 : Below w.heap.size w ((w.alloc (.cells zE.toArray 30)).alloc (.cells zE.toArray 30)) := ((Below.refl _ _).alloc (Nat.le_refl _) _).alloc (by simp) _
  have hsl : s.data.toList.length = s.size := by simp
  have HNE : Hid (s.data.toList ≠ []) := fun h => by rw [h] at hsl; simp at hsl; omega
  have hse : (s.toList == []) = false := by
    rw [ByteArray.toList_eq]; exact beq_eq_false_iff_ne.2 HNE.out
  have hse2 : ¬ s.toList = [] := by simpa using hse
  have h16' : decide (16000 < (s.size : Int)) = false := by simp; omega
  go_enter Tryd.func4, Tryd.ntmps4
  go_wp2_with fail
  refine (c9 s 10 _ (by omega)).mono ?_
  rintro e w1 ⟨⟨g2, cp, rfl, hg2, hL1⟩, hb1⟩
  have hz1w : ((w.alloc (.cells zE.toArray 30)).alloc (.cells zE.toArray 30)).heap.size = w.heap.size + 2 := by simp
  have hx1 : Below (w.heap.size + 2) ((w.alloc (.cells zE.toArray 30)).alloc (.cells zE.toArray 30)) w1 := hb1.mono (by simp)
  have hg2a : w.heap.size + 2 ≤ g2 := by have h := hg2; simp at h; omega
  have hz1 : w.heap.size + 2 ≤ w1.heap.size := by have h := hx1.size; rw [hz1w] at h; exact h
  have bR1 : BlkAt w1 w.heap.size zE := ((blk_new w zE 30).below ((Below.refl _ _).alloc (Nat.le_refl _) _) (by simp)).below hx1 (by omega)
  have oR1 : OpnAt w1 w.heap.size := ((opn_new w zE.toArray 30).below ((Below.refl _ _).alloc (Nat.le_refl _) _) (by simp)).below hx1 (by omega)
  have bM1 : BlkAt w1 (w.heap.size + 1) zE := BlkAt.below (by have h := blk_new (w.alloc (.cells zE.toArray 30)) zE 30; simp at h; exact h) hx1 (by omega)
  have oM1 : OpnAt w1 (w.heap.size + 1) := OpnAt.below (by have h := opn_new (w.alloc (.cells zE.toArray 30)) zE.toArray 30; simp at h; exact h) hx1 (by omega)
  have hB1 : Below w.heap.size w w1 := hB0.trans (hx1.mono (by omega))
  have hcl := cut_len 10 s.data.toList
  have hcs := cut_small 10 s.data.toList
  clear hb1 hg2 hz1w hx1
  obtain ⟨Ls, hLs⟩ : ∃ Ls, Ls = cutS 10 s.data.toList := ⟨_, rfl⟩
  rw [← hLs] at hL1 hcl hcs hw ⊢
  have HLS : Hid (cutS 10 s.data.toList = Ls) := hLs.symm
  have HCS : Hid (∀ k, (Ls.getD k []).length ≤ 16000) := fun k => Nat.le_trans (hcs k) (by omega)
  obtain ⟨F, hF⟩ : ∃ F, F = Ls.getD 0 [] := ⟨_, rfl⟩
  have HF : Hid (Ls.getD 0 [] = F) := hF.symm
  have hFl : F.length ≤ 16000 := by rw [hF]; exact HCS.out 0
  rw [← hF] at hw
  have hcl1 : 1 ≤ Ls.length := hcl.1
  have hcl2 : Ls.length ≤ 16001 := by have := hcl.2; omega
  have c0 : w1.cell? ⟨g2, 0, none⟩ = some (.string (ofL F)) := by rw [hF]; exact hL1.2 0 hcl1
  have hg2b := hL1.1
  clear hF hLs hcs hcl
  go_wp2_with fail
  refine (c10o F _ (by omega) 1 (by omega) (by omega)).mono ?_
  rintro e w3 ⟨⟨g3, cp3, rfl, hg3, hl3⟩, hb3⟩
  have hz3 : w1.heap.size ≤ w3.heap.size := hb3.size
  have bR := BlkAt.below bR1 hb3 (by omega)
  have oR := OpnAt.below oR1 hb3 (by omega)
  have bM := BlkAt.below bM1 hb3 (by omega)
  have oM := OpnAt.below oM1 hb3 (by omega)
  have hL3 : Hid (LinesAt w3 g2 Ls) := lines_below hL1 hb3
  have hB3 : Below w.heap.size w w3 := hB1.trans (hb3.mono hB1.size)
  have d0 : w3.cell? ⟨g3, 0, none⟩ = some (.string (ofL (wordOf F))) := hl3.2 0 (by simp [wordsN])
  have hg3b : g3 < w3.heap.size := hl3.1
  have hrs := rest_small F
  have hrN : ofL (restN F 1) = ofL (restOf F) := rfl
  rw [hrN]
  clear hrN hb3 bR1 oR1 bM1 oM1 hL1 hB1 hl3 c0 hB0
  have hMz : w.heap.size + 1 < w3.heap.size := by omega
  have hRB : w.heap.size < w.heap.size + 1 := by omega
  have hg3M : w.heap.size + 1 < g3 := by omega
  have hg2M : w.heap.size + 1 < g2 := by omega
  have hg2z : g2 < w3.heap.size := by omega
  clear hg3 hg2b hg2a hz1 hz3
  generalize w.heap.size + 1 = Bm at *
  have HX : Hid (LsE s.data.toList eClear) := lsE_5 (by rw [HLS.out]; exact HF.out) hw
  have HW : Hid (wordOf F = wClear) := hw
  have hes : ofL (wordOf F) = ⟨#[99, 108, 101, 97, 114]⟩ := by rw [hw]; rfl
  rw [hes] at d0
  clear hw hes
  have k0 := bM 0 _ rfl
  have f0 := oM 0
  have HM : BlkAt (w3.setCell ⟨Bm, 0, none⟩ (.int .i64 5)) Bm ((eClear).c none 0) := bM.set 0 (.int .i64 5) (by show 0 < 10; omega)
  have HR : BlkAt (w3.setCell ⟨Bm, 0, none⟩ (.int .i64 5)) w.heap.size zE := bR.other _ _ (by show Bm ≠ w.heap.size; omega)
  have HO : OpnAt (w3.setCell ⟨Bm, 0, none⟩ (.int .i64 5)) w.heap.size := oR.set _ _
  have hBU : Below w.heap.size w (w3.setCell ⟨Bm, 0, none⟩ (.int .i64 5)) := hB3.setCell (by show w.heap.size ≤ Bm; omega) _
  have hMU : Bm < (w3.setCell ⟨Bm, 0, none⟩ (.int .i64 5)).heap.size := by simp; omega
  have hRU : w.heap.size < (w3.setCell ⟨Bm, 0, none⟩ (.int .i64 5)).heap.size := by simp; omega
  have HLK : LksAt (w3.setCell ⟨Bm, 0, none⟩ (.int .i64 5)) none (eClear).ls := .inl rfl
  have hle : (eClear).le 1048576 := ⟨Nat.zero_le _, Nat.zero_le _, ⟨Nat.zero_le _, Nat.zero_le _, Nat.zero_le _⟩, ⟨Nat.zero_le _, fun _ => ⟨Nat.zero_le _, Nat.zero_le _⟩⟩, Nat.zero_le _⟩
  have hAne : ∀ g o, (none : Option Addr) = some ⟨g, o, none⟩ → g ≠ w.heap.size := fun _ _ h => by cases h
  clear bM oM bR oR hB3
  go_wp2_with (refine wpList_load_blkW (by rfl) 30 (.tmp 4) rfl Bm rfl ((eClear).c none 0) _ HM Tryd.underlying30 rfl (by kernel_rfl) ?_)
  refine (c15 (eClear) none 0 _ hle HLK).mono ?_
  rintro e U1 ⟨⟨str, rfl, hT⟩, hbU⟩
  have HM1 := BlkAt.below HM hbU hMU
  have HR1 := BlkAt.below HR hbU hRU
  have HO1 := OpnAt.below HO hbU hRU
  have hB1 : Below w.heap.size w U1 := hBU.trans (hbU.mono hBU.size)
  have HLK1 := lks_below HLK hbU
  clear HM HR HO HLK hBU hbU
  by_cases he : str.data.toList = s.data.toList
  · have HN : Hid (RES s.data.toList (eClear) true) := res_yes HX.out hT HNE.out he
    have e2 : str.toList = s.toList := by rw [ByteArray.toList_eq, ByteArray.toList_eq]; exact he
    have e1 : (str.toList == s.toList) = true := by simpa using e2
    clear hT HX he
    go_wp2_with (first | refine wpList_load_blk rfl 30 (.tmp 4) rfl Bm rfl ((eClear).c none 0) _ HM1 Tryd.underlying30 rfl (by kernel_rfl) ?_ | refine wpList_store_blk rfl 30 (.tmp 2) (.tmp 123) rfl w.heap.size 0 rfl ((eClear).c none 0) rfl (blk_some HR1 _ rfl) HO1 (N10.c_one _ _ _) (by kernel_rfl) rfl ?_)
    exact fin4 (eClear) none 0 true HN.out (fun h => by cases h) hle (lks_filo _ HLK1 hAne) rfl rfl rfl HR1 hB1
  · have HN : Hid (RES s.data.toList n10z false) := res_no HX.out hT he
    have e2 : ¬ str.toList = s.toList := by rw [ByteArray.toList_eq, ByteArray.toList_eq]; exact he
    have e1 : (str.toList == s.toList) = false := by simpa using e2
    clear hT HX he
    go_wp2_with (refine wpList_store_blk rfl 30 (.tmp 2) (.tmp 122) rfl w.heap.size 0 rfl zE rfl (blk_some HR1 zE rfl) HO1 (by simp [zE, Value.oneCell']) (by kernel_rfl) rfl ?_)
    exact fin4_no HN.out rfl rfl rfl HR1 hB1
set_option maxHeartbeats 16000000 in
set_option maxRecDepth 100000 in
theorem c4_drop (s : ByteArray) (w : World) (h1 : 1 ≤ s.size) (h16 : s.size ≤ 16000) (hw : wordOf ((cutS 10 s.data.toList).getD 0 []) = wDrop) :
    Calls Tryd.prog 4 #[.string s] w fun e w' => Is4 s.data.toList w' e ∧ Below w.heap.size w w' := by
  have hB0 : Below w.heap.size w ((w.alloc (.cells zE.toArray 30)).alloc (.cells zE.toArray 30)) := ((Below.refl _ _).alloc (Nat.le_refl _) _).alloc (by simp) _
  have hsl : s.data.toList.length = s.size := by simp
  have HNE : Hid (s.data.toList ≠ []) := fun h => by rw [h] at hsl; simp at hsl; omega
  have hse : (s.toList == []) = false := by
    rw [ByteArray.toList_eq]; exact beq_eq_false_iff_ne.2 HNE.out
  have hse2 : ¬ s.toList = [] := by simpa using hse
  have h16' : decide (16000 < (s.size : Int)) = false := by simp; omega
  go_enter Tryd.func4, Tryd.ntmps4
  go_wp2_with fail
  refine (c9 s 10 _ (by omega)).mono ?_
  rintro e w1 ⟨⟨g2, cp, rfl, hg2, hL1⟩, hb1⟩
  have hz1w : ((w.alloc (.cells zE.toArray 30)).alloc (.cells zE.toArray 30)).heap.size = w.heap.size + 2 := by simp
  have hx1 : Below (w.heap.size + 2) ((w.alloc (.cells zE.toArray 30)).alloc (.cells zE.toArray 30)) w1 := hb1.mono (by simp)
  have hg2a : w.heap.size + 2 ≤ g2 := by have h := hg2; simp at h; omega
  have hz1 : w.heap.size + 2 ≤ w1.heap.size := by have h := hx1.size; rw [hz1w] at h; exact h
  have bR1 : BlkAt w1 w.heap.size zE := ((blk_new w zE 30).below ((Below.refl _ _).alloc (Nat.le_refl _) _) (by simp)).below hx1 (by omega)
  have oR1 : OpnAt w1 w.heap.size := ((opn_new w zE.toArray 30).below ((Below.refl _ _).alloc (Nat.le_refl _) _) (by simp)).below hx1 (by omega)
  have bM1 : BlkAt w1 (w.heap.size + 1) zE := BlkAt.below (by have h := blk_new (w.alloc (.cells zE.toArray 30)) zE 30; simp at h; exact h) hx1 (by omega)
  have oM1 : OpnAt w1 (w.heap.size + 1) := OpnAt.below (by have h := opn_new (w.alloc (.cells zE.toArray 30)) zE.toArray 30; simp at h; exact h) hx1 (by omega)
  have hB1 : Below w.heap.size w w1 := hB0.trans (hx1.mono (by omega))
  have hcl := cut_len 10 s.data.toList
  have hcs := cut_small 10 s.data.toList
  clear hb1 hg2 hz1w hx1
  obtain ⟨Ls, hLs⟩ : ∃ Ls, Ls = cutS 10 s.data.toList := ⟨_, rfl⟩
  rw [← hLs] at hL1 hcl hcs hw ⊢
  have HLS : Hid (cutS 10 s.data.toList = Ls) := hLs.symm
  have HCS : Hid (∀ k, (Ls.getD k []).length ≤ 16000) := fun k => Nat.le_trans (hcs k) (by omega)
  obtain ⟨F, hF⟩ : ∃ F, F = Ls.getD 0 [] := ⟨_, rfl⟩
  have HF : Hid (Ls.getD 0 [] = F) := hF.symm
  have hFl : F.length ≤ 16000 := by rw [hF]; exact HCS.out 0
  rw [← hF] at hw
  have hcl1 : 1 ≤ Ls.length := hcl.1
  have hcl2 : Ls.length ≤ 16001 := by have := hcl.2; omega
  have c0 : w1.cell? ⟨g2, 0, none⟩ = some (.string (ofL F)) := by rw [hF]; exact hL1.2 0 hcl1
  have hg2b := hL1.1
  clear hF hLs hcs hcl
  go_wp2_with fail
  refine (c10o F _ (by omega) 1 (by omega) (by omega)).mono ?_
  rintro e w3 ⟨⟨g3, cp3, rfl, hg3, hl3⟩, hb3⟩
  have hz3 : w1.heap.size ≤ w3.heap.size := hb3.size
  have bR := BlkAt.below bR1 hb3 (by omega)
  have oR := OpnAt.below oR1 hb3 (by omega)
  have bM := BlkAt.below bM1 hb3 (by omega)
  have oM := OpnAt.below oM1 hb3 (by omega)
  have hL3 : Hid (LinesAt w3 g2 Ls) := lines_below hL1 hb3
  have hB3 : Below w.heap.size w w3 := hB1.trans (hb3.mono hB1.size)
  have d0 : w3.cell? ⟨g3, 0, none⟩ = some (.string (ofL (wordOf F))) := hl3.2 0 (by simp [wordsN])
  have hg3b : g3 < w3.heap.size := hl3.1
  have hrs := rest_small F
  have hrN : ofL (restN F 1) = ofL (restOf F) := rfl
  rw [hrN]
  clear hrN hb3 bR1 oR1 bM1 oM1 hL1 hB1 hl3 c0 hB0
  have hMz : w.heap.size + 1 < w3.heap.size := by omega
  have hRB : w.heap.size < w.heap.size + 1 := by omega
  have hg3M : w.heap.size + 1 < g3 := by omega
  have hg2M : w.heap.size + 1 < g2 := by omega
  have hg2z : g2 < w3.heap.size := by omega
  clear hg3 hg2b hg2a hz1 hz3
  generalize w.heap.size + 1 = Bm at *
  have HX : Hid (LsE s.data.toList (eDrop (ofL (restOf F)))) := lsE_3 (by rw [HLS.out]; exact HF.out) hw
  have HW : Hid (wordOf F = wDrop) := hw
  have hes : ofL (wordOf F) = ⟨#[100, 114, 111, 112]⟩ := by rw [hw]; rfl
  rw [hes] at d0
  clear hw hes
  have k0 := bM 0 _ rfl
  have f0 := oM 0
  have k2 := bM 2 _ rfl
  have f2 := oM 2
  have HM : BlkAt ((w3.setCell ⟨Bm, 0, none⟩ (.int .i64 3)).setCell ⟨Bm, 2, none⟩ (.string (ofL (restOf F)))) Bm ((eDrop (ofL (restOf F))).c none 0) := (bM.set 0 (.int .i64 3) (by show 0 < 10; omega)).set 2 (.string (ofL (restOf F))) (by show 2 < 10; omega)
  have HR : BlkAt ((w3.setCell ⟨Bm, 0, none⟩ (.int .i64 3)).setCell ⟨Bm, 2, none⟩ (.string (ofL (restOf F)))) w.heap.size zE := (bR.other _ _ (by show Bm ≠ w.heap.size; omega)).other _ _ (by show Bm ≠ w.heap.size; omega)
  have HO : OpnAt ((w3.setCell ⟨Bm, 0, none⟩ (.int .i64 3)).setCell ⟨Bm, 2, none⟩ (.string (ofL (restOf F)))) w.heap.size := (oR.set _ _).set _ _
  have hBU : Below w.heap.size w ((w3.setCell ⟨Bm, 0, none⟩ (.int .i64 3)).setCell ⟨Bm, 2, none⟩ (.string (ofL (restOf F)))) := (hB3.setCell (by show w.heap.size ≤ Bm; omega) _).setCell (by show w.heap.size ≤ Bm; omega) _
  have hMU : Bm < ((w3.setCell ⟨Bm, 0, none⟩ (.int .i64 3)).setCell ⟨Bm, 2, none⟩ (.string (ofL (restOf F)))).heap.size := by simp; omega
  have hRU : w.heap.size < ((w3.setCell ⟨Bm, 0, none⟩ (.int .i64 3)).setCell ⟨Bm, 2, none⟩ (.string (ofL (restOf F)))).heap.size := by simp; omega
  have HLK : LksAt ((w3.setCell ⟨Bm, 0, none⟩ (.int .i64 3)).setCell ⟨Bm, 2, none⟩ (.string (ofL (restOf F)))) none (eDrop (ofL (restOf F))).ls := .inl rfl
  have hle : (eDrop (ofL (restOf F))).le 1048576 := ⟨by show (ofL (restOf F)).size ≤ 1048576; rw [ofL_size]; omega, Nat.zero_le _, ⟨Nat.zero_le _, Nat.zero_le _, Nat.zero_le _⟩, ⟨Nat.zero_le _, fun _ => ⟨Nat.zero_le _, Nat.zero_le _⟩⟩, Nat.zero_le _⟩
  have hAne : ∀ g o, (none : Option Addr) = some ⟨g, o, none⟩ → g ≠ w.heap.size := fun _ _ h => by cases h
  clear bM oM bR oR hB3
  generalize ofL (restOf F) = rF at *
  go_wp2_with (refine wpList_load_blkW (by rfl) 30 (.tmp 4) rfl Bm rfl ((eDrop rF).c none 0) _ HM Tryd.underlying30 rfl (by kernel_rfl) ?_)
  refine (c15 (eDrop rF) none 0 _ hle HLK).mono ?_
  rintro e U1 ⟨⟨str, rfl, hT⟩, hbU⟩
  have HM1 := BlkAt.below HM hbU hMU
  have HR1 := BlkAt.below HR hbU hRU
  have HO1 := OpnAt.below HO hbU hRU
  have hB1 : Below w.heap.size w U1 := hBU.trans (hbU.mono hBU.size)
  have HLK1 := lks_below HLK hbU
  clear HM HR HO HLK hBU hbU
  by_cases he : str.data.toList = s.data.toList
  · have HN : Hid (RES s.data.toList (eDrop rF) true) := res_yes HX.out hT HNE.out he
    have e2 : str.toList = s.toList := by rw [ByteArray.toList_eq, ByteArray.toList_eq]; exact he
    have e1 : (str.toList == s.toList) = true := by simpa using e2
    clear hT HX he
    go_wp2_with (first | refine wpList_load_blk rfl 30 (.tmp 4) rfl Bm rfl ((eDrop rF).c none 0) _ HM1 Tryd.underlying30 rfl (by kernel_rfl) ?_ | refine wpList_store_blk rfl 30 (.tmp 2) (.tmp 123) rfl w.heap.size 0 rfl ((eDrop rF).c none 0) rfl (blk_some HR1 _ rfl) HO1 (N10.c_one _ _ _) (by kernel_rfl) rfl ?_)
    exact fin4 (eDrop rF) none 0 true HN.out (fun h => by cases h) hle (lks_filo _ HLK1 hAne) rfl rfl rfl HR1 hB1
  · have HN : Hid (RES s.data.toList n10z false) := res_no HX.out hT he
    have e2 : ¬ str.toList = s.toList := by rw [ByteArray.toList_eq, ByteArray.toList_eq]; exact he
    have e1 : (str.toList == s.toList) = false := by simpa using e2
    clear hT HX he
    go_wp2_with (refine wpList_store_blk rfl 30 (.tmp 2) (.tmp 122) rfl w.heap.size 0 rfl zE rfl (blk_some HR1 zE rfl) HO1 (by simp [zE, Value.oneCell']) (by kernel_rfl) rfl ?_)
    exact fin4_no HN.out rfl rfl rfl HR1 hB1
set_option maxHeartbeats 16000000 in
set_option maxRecDepth 100000 in
theorem c4_epoch (s : ByteArray) (w : World) (h1 : 1 ≤ s.size) (h16 : s.size ≤ 16000) (hw : wordOf ((cutS 10 s.data.toList).getD 0 []) = wEpoch) :
    Calls Tryd.prog 4 #[.string s] w fun e w' => Is4 s.data.toList w' e ∧ Below w.heap.size w w' := by
  have hB0 : Below w.heap.size w ((w.alloc (.cells zE.toArray 30)).alloc (.cells zE.toArray 30)) := ((Below.refl _ _).alloc (Nat.le_refl _) _).alloc (by simp) _
  have hsl : s.data.toList.length = s.size := by simp
  have HNE : Hid (s.data.toList ≠ []) := fun h => by rw [h] at hsl; simp at hsl; omega
  have hse : (s.toList == []) = false := by
    rw [ByteArray.toList_eq]; exact beq_eq_false_iff_ne.2 HNE.out
  have hse2 : ¬ s.toList = [] := by simpa using hse
  have h16' : decide (16000 < (s.size : Int)) = false := by simp; omega
  go_enter Tryd.func4, Tryd.ntmps4
  go_wp2_with fail
  refine (c9 s 10 _ (by omega)).mono ?_
  rintro e w1 ⟨⟨g2, cp, rfl, hg2, hL1⟩, hb1⟩
  have hz1w : ((w.alloc (.cells zE.toArray 30)).alloc (.cells zE.toArray 30)).heap.size = w.heap.size + 2 := by simp
  have hx1 : Below (w.heap.size + 2) ((w.alloc (.cells zE.toArray 30)).alloc (.cells zE.toArray 30)) w1 := hb1.mono (by simp)
  have hg2a : w.heap.size + 2 ≤ g2 := by have h := hg2; simp at h; omega
  have hz1 : w.heap.size + 2 ≤ w1.heap.size := by have h := hx1.size; rw [hz1w] at h; exact h
  have bR1 : BlkAt w1 w.heap.size zE := ((blk_new w zE 30).below ((Below.refl _ _).alloc (Nat.le_refl _) _) (by simp)).below hx1 (by omega)
  have oR1 : OpnAt w1 w.heap.size := ((opn_new w zE.toArray 30).below ((Below.refl _ _).alloc (Nat.le_refl _) _) (by simp)).below hx1 (by omega)
  have bM1 : BlkAt w1 (w.heap.size + 1) zE := BlkAt.below (by have h := blk_new (w.alloc (.cells zE.toArray 30)) zE 30; simp at h; exact h) hx1 (by omega)
  have oM1 : OpnAt w1 (w.heap.size + 1) := OpnAt.below (by have h := opn_new (w.alloc (.cells zE.toArray 30)) zE.toArray 30; simp at h; exact h) hx1 (by omega)
  have hB1 : Below w.heap.size w w1 := hB0.trans (hx1.mono (by omega))
  have hcl := cut_len 10 s.data.toList
  have hcs := cut_small 10 s.data.toList
  clear hb1 hg2 hz1w hx1
  obtain ⟨Ls, hLs⟩ : ∃ Ls, Ls = cutS 10 s.data.toList := ⟨_, rfl⟩
  rw [← hLs] at hL1 hcl hcs hw ⊢
  have HLS : Hid (cutS 10 s.data.toList = Ls) := hLs.symm
  have HCS : Hid (∀ k, (Ls.getD k []).length ≤ 16000) := fun k => Nat.le_trans (hcs k) (by omega)
  obtain ⟨F, hF⟩ : ∃ F, F = Ls.getD 0 [] := ⟨_, rfl⟩
  have HF : Hid (Ls.getD 0 [] = F) := hF.symm
  have hFl : F.length ≤ 16000 := by rw [hF]; exact HCS.out 0
  rw [← hF] at hw
  have hcl1 : 1 ≤ Ls.length := hcl.1
  have hcl2 : Ls.length ≤ 16001 := by have := hcl.2; omega
  have c0 : w1.cell? ⟨g2, 0, none⟩ = some (.string (ofL F)) := by rw [hF]; exact hL1.2 0 hcl1
  have hg2b := hL1.1
  clear hF hLs hcs hcl
  go_wp2_with fail
  refine (c10o F _ (by omega) 1 (by omega) (by omega)).mono ?_
  rintro e w3 ⟨⟨g3, cp3, rfl, hg3, hl3⟩, hb3⟩
  have hz3 : w1.heap.size ≤ w3.heap.size := hb3.size
  have bR := BlkAt.below bR1 hb3 (by omega)
  have oR := OpnAt.below oR1 hb3 (by omega)
  have bM := BlkAt.below bM1 hb3 (by omega)
  have oM := OpnAt.below oM1 hb3 (by omega)
  have hL3 : Hid (LinesAt w3 g2 Ls) := lines_below hL1 hb3
  have hB3 : Below w.heap.size w w3 := hB1.trans (hb3.mono hB1.size)
  have d0 : w3.cell? ⟨g3, 0, none⟩ = some (.string (ofL (wordOf F))) := hl3.2 0 (by simp [wordsN])
  have hg3b : g3 < w3.heap.size := hl3.1
  have hrs := rest_small F
  have hrN : ofL (restN F 1) = ofL (restOf F) := rfl
  rw [hrN]
  clear hrN hb3 bR1 oR1 bM1 oM1 hL1 hB1 hl3 c0 hB0
  have hMz : w.heap.size + 1 < w3.heap.size := by omega
  have hRB : w.heap.size < w.heap.size + 1 := by omega
  have hg3M : w.heap.size + 1 < g3 := by omega
  have hg2M : w.heap.size + 1 < g2 := by omega
  have hg2z : g2 < w3.heap.size := by omega
  clear hg3 hg2b hg2a hz1 hz3
  generalize w.heap.size + 1 = Bm at *
  have HX : Hid (LsE s.data.toList (eEpoch (n29 (restOf F)))) := lsE_1 (by rw [HLS.out]; exact HF.out) hw
  have HW : Hid (wordOf F = wEpoch) := hw
  have hes : ofL (wordOf F) = ⟨#[101, 112, 111, 99, 104]⟩ := by rw [hw]; rfl
  rw [hes] at d0
  clear hw hes
  have k0 := bM 0 _ rfl
  have f0 := oM 0
  go_wp2_with fail
  refine (c11 (ofL (restOf F)) _ (by rw [ofL_size]; omega)).mono ?_
  rintro e w4 ⟨rfl, hb4⟩
  rw [ofL_list]
  have hzs : (w3.setCell ⟨Bm, 0, none⟩ (.int .i64 1)).heap.size = w3.heap.size := by simp
  have hz4 : w3.heap.size ≤ w4.heap.size := by have h := hb4.size; rw [hzs] at h; exact h
  have bM4 := BlkAt.below (bM.set 0 (.int .i64 1) (by show 0 < 10; omega)) hb4 (by rw [hzs]; exact hMz)
  have oM4 := OpnAt.below (oM.set ⟨Bm, 0, none⟩ (.int .i64 1)) hb4 (by rw [hzs]; exact hMz)
  have bR4 := BlkAt.below (bR.other ⟨Bm, 0, none⟩ (.int .i64 1) (by show Bm ≠ w.heap.size; omega)) hb4 (by rw [hzs]; omega)
  have oR4 := OpnAt.below (oR.set ⟨Bm, 0, none⟩ (.int .i64 1)) hb4 (by rw [hzs]; omega)
  have hB4 : Below w.heap.size w w4 := (hB3.setCell (by show w.heap.size ≤ Bm; omega) _).trans (hb4.mono (by rw [hzs]; omega))
  have k1 := bM4 1 _ rfl
  have f1 := oM4 1
  have HM : BlkAt (w4.setCell ⟨Bm, 1, none⟩ (.int .i64 (n29 (restOf F)))) Bm ((eEpoch (n29 (restOf F))).c none 0) := bM4.set 1 (.int .i64 (n29 (restOf F))) (by show 1 < 10; omega)
  have HR : BlkAt (w4.setCell ⟨Bm, 1, none⟩ (.int .i64 (n29 (restOf F)))) w.heap.size zE := bR4.other _ _ (by show Bm ≠ w.heap.size; omega)
  have HO : OpnAt (w4.setCell ⟨Bm, 1, none⟩ (.int .i64 (n29 (restOf F)))) w.heap.size := oR4.set _ _
  have hBU : Below w.heap.size w (w4.setCell ⟨Bm, 1, none⟩ (.int .i64 (n29 (restOf F)))) := hB4.setCell (by show w.heap.size ≤ Bm; omega) _
  have hMU : Bm < (w4.setCell ⟨Bm, 1, none⟩ (.int .i64 (n29 (restOf F)))).heap.size := by simp; omega
  have hRU : w.heap.size < (w4.setCell ⟨Bm, 1, none⟩ (.int .i64 (n29 (restOf F)))).heap.size := by simp; omega
  have HLK : LksAt (w4.setCell ⟨Bm, 1, none⟩ (.int .i64 (n29 (restOf F)))) none (eEpoch (n29 (restOf F))).ls := .inl rfl
  have hle : (eEpoch (n29 (restOf F))).le 1048576 := ⟨Nat.zero_le _, Nat.zero_le _, ⟨Nat.zero_le _, Nat.zero_le _, Nat.zero_le _⟩, ⟨Nat.zero_le _, fun _ => ⟨Nat.zero_le _, Nat.zero_le _⟩⟩, Nat.zero_le _⟩
  have hAne : ∀ g o, (none : Option Addr) = some ⟨g, o, none⟩ → g ≠ w.heap.size := fun _ _ h => by cases h
  clear hb4 hzs bM oM bR oR hB3 bM4 oM4 bR4 oR4 hB4
  generalize n29 (restOf F) = nF at *
  go_wp2_with (refine wpList_load_blkW (by rfl) 30 (.tmp 4) rfl Bm rfl ((eEpoch nF).c none 0) _ HM Tryd.underlying30 rfl (by kernel_rfl) ?_)
  refine (c15 (eEpoch nF) none 0 _ hle HLK).mono ?_
  rintro e U1 ⟨⟨str, rfl, hT⟩, hbU⟩
  have HM1 := BlkAt.below HM hbU hMU
  have HR1 := BlkAt.below HR hbU hRU
  have HO1 := OpnAt.below HO hbU hRU
  have hB1 : Below w.heap.size w U1 := hBU.trans (hbU.mono hBU.size)
  have HLK1 := lks_below HLK hbU
  clear HM HR HO HLK hBU hbU
  by_cases he : str.data.toList = s.data.toList
  · have HN : Hid (RES s.data.toList (eEpoch nF) true) := res_yes HX.out hT HNE.out he
    have e2 : str.toList = s.toList := by rw [ByteArray.toList_eq, ByteArray.toList_eq]; exact he
    have e1 : (str.toList == s.toList) = true := by simpa using e2
    clear hT HX he
    go_wp2_with (first | refine wpList_load_blk rfl 30 (.tmp 4) rfl Bm rfl ((eEpoch nF).c none 0) _ HM1 Tryd.underlying30 rfl (by kernel_rfl) ?_ | refine wpList_store_blk rfl 30 (.tmp 2) (.tmp 123) rfl w.heap.size 0 rfl ((eEpoch nF).c none 0) rfl (blk_some HR1 _ rfl) HO1 (N10.c_one _ _ _) (by kernel_rfl) rfl ?_)
    exact fin4 (eEpoch nF) none 0 true HN.out (fun h => by cases h) hle (lks_filo _ HLK1 hAne) rfl rfl rfl HR1 hB1
  · have HN : Hid (RES s.data.toList n10z false) := res_no HX.out hT he
    have e2 : ¬ str.toList = s.toList := by rw [ByteArray.toList_eq, ByteArray.toList_eq]; exact he
    have e1 : (str.toList == s.toList) = false := by simpa using e2
    clear hT HX he
    go_wp2_with (refine wpList_store_blk rfl 30 (.tmp 2) (.tmp 122) rfl w.heap.size 0 rfl zE rfl (blk_some HR1 zE rfl) HO1 (by simp [zE, Value.oneCell']) (by kernel_rfl) rfl ?_)
    exact fin4_no HN.out rfl rfl rfl HR1 hB1
end Go.Proofs.YtejlfpolnddfdaaDoor
namespace Go.Proofs.YtejlfpolnddfdaaDoor
open Go.RowKit
set_option linter.unusedVariables false
set_option maxHeartbeats 16000000 in
set_option maxRecDepth 100000 in
theorem c4_empty (w : World) :
    Calls Tryd.prog 4 #[.string ⟨#[]⟩] w fun e w' => Is4 [] w' e ∧ Below w.heap.size w w' := by
  have hB0 : Below w.heap.size w ((w.alloc (.cells zE.toArray 30)).alloc (.cells zE.toArray 30)) := ((Below.refl _ _).alloc (Nat.le_refl _) _).alloc (by simp) _
  go_enter Tryd.func4, Tryd.ntmps4
  go_wp2_with fail
  refine (c9 ⟨#[]⟩ 10 _ (by decide)).mono ?_
  rintro e w1 ⟨⟨g2, cp, rfl, hg2, hL1⟩, hb1⟩
  have hz1w : ((w.alloc (.cells zE.toArray 30)).alloc (.cells zE.toArray 30)).heap.size = w.heap.size + 2 := by simp
  have hx1 : Below (w.heap.size + 2) ((w.alloc (.cells zE.toArray 30)).alloc (.cells zE.toArray 30)) w1 := hb1.mono (by simp)
  have hg2a : w.heap.size + 2 ≤ g2 := by have h := hg2; simp at h; omega
  have hz1 : w.heap.size + 2 ≤ w1.heap.size := by have h := hx1.size; rw [hz1w] at h; exact h
  have bR1 : BlkAt w1 w.heap.size zE := ((blk_new w zE 30).below ((Below.refl _ _).alloc (Nat.le_refl _) _) (by simp)).below hx1 (by omega)
  have oR1 : OpnAt w1 w.heap.size := ((opn_new w zE.toArray 30).below ((Below.refl _ _).alloc (Nat.le_refl _) _) (by simp)).below hx1 (by omega)
  have bM1 : BlkAt w1 (w.heap.size + 1) zE := BlkAt.below (by have h := blk_new (w.alloc (.cells zE.toArray 30)) zE 30; simp at h; exact h) hx1 (by omega)
  have oM1 : OpnAt w1 (w.heap.size + 1) := OpnAt.below (by have h := opn_new (w.alloc (.cells zE.toArray 30)) zE.toArray 30; simp at h; exact h) hx1 (by omega)
  have hB1 : Below w.heap.size w w1 := hB0.trans (hx1.mono (by omega))
  have hcl := cut_len 10 ([] : List UInt8)
  have hcs := cut_small 10 ([] : List UInt8)
  clear hb1 hg2 hz1w hx1
  obtain ⟨Ls, hLs⟩ : ∃ Ls, Ls = cutS 10 ([] : List UInt8) := ⟨_, rfl⟩
  rw [← hLs] at hL1 hcl hcs ⊢
  have HLS : Hid (cutS 10 ([] : List UInt8) = Ls) := hLs.symm
  have HCS : Hid (∀ k, (Ls.getD k []).length ≤ 16000) := fun k => Nat.le_trans (hcs k) (by simp)
  obtain ⟨F, hF⟩ : ∃ F, F = Ls.getD 0 [] := ⟨_, rfl⟩
  have HF : Hid (Ls.getD 0 [] = F) := hF.symm
  have hFl : F.length ≤ 16000 := by rw [hF]; exact HCS.out 0
  have hcl1 : 1 ≤ Ls.length := hcl.1
  have hcl2 : Ls.length ≤ 16001 := by have := hcl.2; simp at this; omega
  have c0 : w1.cell? ⟨g2, 0, none⟩ = some (.string (ofL F)) := by rw [hF]; exact hL1.2 0 hcl1
  have hg2b := hL1.1
  clear hF hLs hcs hcl
  go_wp2_with fail
  refine (c10o F _ (by omega) 1 (by omega) (by omega)).mono ?_
  rintro e w3 ⟨⟨g3, cp3, rfl, hg3, hl3⟩, hb3⟩
  have hz3 : w1.heap.size ≤ w3.heap.size := hb3.size
  have bR := BlkAt.below bR1 hb3 (by omega)
  have oR := OpnAt.below oR1 hb3 (by omega)
  have bM := BlkAt.below bM1 hb3 (by omega)
  have oM := OpnAt.below oM1 hb3 (by omega)
  have hL3 : Hid (LinesAt w3 g2 Ls) := lines_below hL1 hb3
  have hB3 : Below w.heap.size w w3 := hB1.trans (hb3.mono hB1.size)
  have d0 : w3.cell? ⟨g3, 0, none⟩ = some (.string (ofL (wordOf F))) := hl3.2 0 (by simp [wordsN])
  have hg3b : g3 < w3.heap.size := hl3.1
  have hrs := rest_small F
  have hrN : ofL (restN F 1) = ofL (restOf F) := rfl
  rw [hrN]
  clear hrN hb3 bR1 oR1 bM1 oM1 hL1 hB1 hl3 c0 hB0
  have hFe : F = [] := by rw [← HF.out, ← HLS.out]; rfl
  subst hFe
  have hde : ofL (wordOf []) = ⟨#[]⟩ := rfl
  rw [hde] at d0
  clear hde
  have hMz : w.heap.size + 1 < w3.heap.size := by omega
  have hRB : w.heap.size < w.heap.size + 1 := by omega
  have hg3M : w.heap.size + 1 < g3 := by omega
  have hg2M : w.heap.size + 1 < g2 := by omega
  have hg2z : g2 < w3.heap.size := by omega
  clear hg3 hg2b hg2a hz1 hz3
  generalize w.heap.size + 1 = Bm at *
  have HN : Hid (RES [] n10z false) := res_out (.inl rfl)
  have hB1 := hB3
  go_wp2_with (refine wpList_store_blk rfl 30 (.tmp 2) (.tmp 122) rfl w.heap.size 0 rfl zE rfl (blk_some bR zE rfl) oR (by simp [zE, Value.oneCell']) (by kernel_rfl) rfl ?_)
  exact fin4_no HN.out rfl rfl rfl bR hB1
end Go.Proofs.YtejlfpolnddfdaaDoor
namespace Go.Proofs.YtejlfpolnddfdaaDoor
open Go.RowKit
set_option linter.unusedVariables false
set_option maxHeartbeats 8000000 in
set_option maxRecDepth 100000 in
theorem c4 (s : ByteArray) (w : World) (hs : s.size ≤ 1048576) :
    Calls Tryd.prog 4 #[.string s] w fun e w' => Is4 s.data.toList w' e ∧ Below w.heap.size w w' := by
  have hsl : s.data.toList.length = s.size := by simp
  by_cases h0 : 1 ≤ s.size
  · by_cases h16 : s.size ≤ 16000
    · by_cases h4 : wordOf ((cutS 10 s.data.toList).getD 0 []) = wRan
      · exact c4_ran s w h0 h16 h4
      by_cases h1 : wordOf ((cutS 10 s.data.toList).getD 0 []) = wEpoch
      · exact c4_epoch s w h0 h16 h1
      by_cases h2 : wordOf ((cutS 10 s.data.toList).getD 0 []) = wFile
      · exact c4_file s w h0 h16 h2
      by_cases h3 : wordOf ((cutS 10 s.data.toList).getD 0 []) = wDrop
      · exact c4_drop s w h0 h16 h3
      by_cases h5 : wordOf ((cutS 10 s.data.toList).getD 0 []) = wClear
      · exact c4_clear s w h0 h16 h5
      exact c4_none s w h0 h16 ⟨h4, h1, h2, h3, h5⟩
    · have HN : Hid (RES s.data.toList n10z false) := res_out (.inr (by omega))
      have hB0 : Below w.heap.size w (w.alloc (.cells zE.toArray 30)) := (Below.refl _ _).alloc (Nat.le_refl _) _
      have hA := blk_new w zE 30
      have hO := opn_new w zE.toArray 30
      have hS := blk_some hA zE rfl
      have h2 : decide (16000 < (s.size : Int)) = true := by simp; omega
      go_enter Tryd.func4, Tryd.ntmps4
      go_wp2_with (refine wpList_store_blk rfl 30 (.tmp 2) (.tmp 18) rfl w.heap.size 0 rfl zE rfl hS hO (by simp [zE, Value.oneCell']) (by kernel_rfl) rfl ?_)
      exact fin4_no HN.out rfl rfl rfl hA hB0
  · have hse : s = ⟨#[]⟩ := by
      apply ByteArray.ext
      have : s.data.size = 0 := by have h : s.size = 0 := by omega
                                   exact h
      exact Array.eq_empty_of_size_eq_zero this
    subst hse
    exact c4_empty w
/-- The two read the same. -/
theorem re_same {l : List UInt8} {x y : N10} {a b : Bool} (hx : RES l x a) (hy : RE l y b) (zx : a = false → x = n10z) (zy : b = false → y = n10z) : a = b ∧ x = y := by
  cases a <;> cases b
  · exact ⟨rfl, by rw [zx rfl, zy rfl]⟩
  · obtain ⟨h1, h2⟩ := hy.1 rfl
    exact absurd h2 (hx.2 rfl y h1)
  · obtain ⟨h1, h2, _⟩ := hx.1 rfl
    exact absurd h2 (hy.2 rfl x h1)
  · obtain ⟨_, _, h3⟩ := hx.1 rfl
    obtain ⟨h1, h2⟩ := hy.1 rfl
    exact ⟨rfl, h3 y h1 h2⟩
theorem c18 (a b : ByteArray) (w : World) :
    Calls Tryd.prog 18 #[.agg #[.string a, .string b], .agg #[.string a, .string b]] w fun e w' => e = .returned (.bool true) ∧ Below w.heap.size w w' := by
  go_enter Tryd.func18, Tryd.ntmps18
  go_wp2
  go_ret
  exact ⟨rfl, ((Below.refl _ _).alloc (Nat.le_refl _) _).alloc (by simp) _⟩
set_option maxHeartbeats 8000000 in
set_option maxRecDepth 100000 in
theorem c6 (x : N10) (ai bi : Option Addr) (ci di : Nat) (w : World) (hl : x.ls.length ≤ 1048576) (hat : LksAt w ai x.ls) (hat' : LksAt w bi x.ls) :
    Calls Tryd.prog 6 #[.agg #[.int .i64 x.kd, .int .i64 x.ep, .string x.fn, .string x.ft, .string x.km.nm, .string x.km.tl, .string x.km.ar, .slice ai x.ls.length ci, .int .i64 x.cd, .string x.tx], .agg #[.int .i64 x.kd, .int .i64 x.ep, .string x.fn, .string x.ft, .string x.km.nm, .string x.km.tl, .string x.km.ar, .slice bi x.ls.length di, .int .i64 x.cd, .string x.tx]] w fun e w' => e = .returned (.bool true) ∧ Below w.heap.size w w' := by
  have HA : Hid (LksAt w ai x.ls) := hat
  have HA' : Hid (LksAt w bi x.ls) := hat'
  clear hat hat'
  have hB0 : ∀ o p, Below w.heap.size w ((w.alloc o).alloc p) := fun o p => ((Below.refl _ _).alloc (Nat.le_refl _) _).alloc (by simp) _
  go_enter Tryd.func6, Tryd.ntmps6
  go_wp2_with fail
  refine (c18 x.fn x.ft _).mono ?_
  rintro e w1 ⟨rfl, hb1⟩
  have hx1 : Below (w.heap.size + 2) ((w.alloc (.cells #[.int .i64 x.kd, .int .i64 x.ep, .string x.fn, .string x.ft, .string x.km.nm, .string x.km.tl, .string x.km.ar, .slice ai x.ls.length ci, .int .i64 x.cd, .string x.tx] 30)).alloc (.cells #[.int .i64 x.kd, .int .i64 x.ep, .string x.fn, .string x.ft, .string x.km.nm, .string x.km.tl, .string x.km.ar, .slice bi x.ls.length di, .int .i64 x.cd, .string x.tx] 30)) w1 := by have h := hb1; simp at h; exact h
  have hB1 : Below w.heap.size w w1 := (hB0 _ _).trans (hx1.mono (by omega))
  have hz1 : w.heap.size + 1 < w1.heap.size := by have := hx1.size; simp at this; omega
  have ZA : BlkAt w1 w.heap.size [.int .i64 x.kd, .int .i64 x.ep, .string x.fn, .string x.ft, .string x.km.nm, .string x.km.tl, .string x.km.ar, .slice ai x.ls.length ci, .int .i64 x.cd, .string x.tx] := fun j v h => (hx1.cell (p := ⟨w.heap.size, j, none⟩) (by show w.heap.size < w.heap.size + 2; omega)).trans (by simp [go_sem, h])
  have ZB : BlkAt w1 (w.heap.size + 1) [.int .i64 x.kd, .int .i64 x.ep, .string x.fn, .string x.ft, .string x.km.nm, .string x.km.tl, .string x.km.ar, .slice bi x.ls.length di, .int .i64 x.cd, .string x.tx] := fun j v h => (hx1.cell (p := ⟨w.heap.size + 1, j, none⟩) (by show w.heap.size + 1 < w.heap.size + 2; omega)).trans (by simp [go_sem, h])
  clear hb1 hx1
  have a4 := ZA 4 _ rfl
  have b4 := ZB 4 _ rfl
  have a5 := ZA 5 _ rfl
  have b5 := ZB 5 _ rfl
  have a6 := ZA 6 _ rfl
  have b6 := ZB 6 _ rfl
  go_wp2_with fail
  clear a4 b4 a5 b5 a6 b6
  refine (c19 x.km _).mono ?_
  rintro e w2 ⟨rfl, hb2⟩
  have hB2 : Below w.heap.size w w2 := hB1.trans (hb2.mono hB1.size)
  have hz2 : w.heap.size + 1 < w2.heap.size := Nat.lt_of_lt_of_le hz1 hb2.size
  have ZA2 := ZA.below hb2 (by omega)
  have ZB2 := ZB.below hb2 hz1
  clear hb2 ZA ZB
  have a7 := ZA2 7 _ rfl
  have b7 := ZB2 7 _ rfl
  go_wp2_with fail
  clear a7 b7
  refine (c20 ai bi ci di x.ls w2 hl (lks_below HA.out hB2) (lks_below HA'.out hB2)).mono ?_
  rintro e w3 ⟨rfl, hb3⟩
  have hB3 : Below w.heap.size w w3 := hB2.trans (hb3.mono hB2.size)
  have ZA3 := ZA2.below hb3 (by omega)
  have ZB3 := ZB2.below hb3 hz2
  clear hb3 ZA2 ZB2
  have a8 := ZA3 8 _ rfl
  have b8 := ZB3 8 _ rfl
  have a9 := ZA3 9 _ rfl
  have b9 := ZB3 9 _ rfl
  go_wp2_with fail
  refine (c21 x.cd x.tx w3).mono ?_
  rintro e w4 ⟨rfl, hb4⟩
  have hB4 : Below w.heap.size w w4 := hB3.trans (hb4.mono hB3.size)
  go_wp2
  go_ret
  exact ⟨rfl, hB4⟩
theorem c6v (x : N10) (ai bi : Option Addr) (ci di : Nat) (w : World) (hl : x.ls.length ≤ 1048576) (hat : LksAt w ai x.ls) (hat' : LksAt w bi x.ls) :
    Calls Tryd.prog 6 #[.agg (x.c ai ci).toArray, .agg (x.c bi di).toArray] w fun e w' => e = .returned (.bool true) ∧ Below w.heap.size w w' := c6 x ai bi ci di w hl hat hat'
set_option maxHeartbeats 1000000 in
theorem c22z (K : Int) (a : Option Addr) (cap : Nat) (w : World) :
    Calls Tryd.prog 22 #[.slice a 0 cap, .int .i64 K] w fun e w' => e = .returned (.int .i64 K) ∧ Below w.heap.size w w' := by
  go_enter Tryd.func22, Tryd.ntmps22
  go_wp2_with fail
  go_loopw [1, 5] (fun q i wr => i = .int .i64 0 ∧ q = .int .i64 K ∧ Below w.heap.size w wr) (fun _ _ _ => 0)
  case atStart => exact ⟨rfl, rfl, Below.refl _ _⟩
  case round =>
    obtain ⟨rfl, rfl, hb⟩ := hrel
    go_wp2
    go_ret
    exact ⟨rfl, hb⟩
theorem c22h (K : Int) (x : N10) (a : Option Addr) (g c : Nat) (w : World) (hK1 : 1 ≤ K) (hK2 : K ≤ 5000000) (hn : x.ls.length ≤ 1048576) (hh : x.ls = [] ∨ (a = some ⟨g, 0, none⟩ ∧ Open4 w g x.ls.length)) :
    Calls Tryd.prog 22 #[.slice a x.ls.length c, .int .i64 K] w fun e w' => e = .returned (.int .i64 (K + 4 * (x.ls.length : Int))) ∧ But g w w' ∧ (x.ls = [] ∨ (Open4 w' g x.ls.length ∧ MarksAt K w' g x.ls.length)) := by
  rcases hh with h | ⟨h1, h2⟩
  · rw [h]
    refine (c22z K a c w).mono fun e w' ⟨he, hb⟩ => ⟨by rw [he]; simp, But.of_below hb, .inl rfl⟩
  · exact (c22 K a g x.ls.length c w hK1 hK2 (.inr h1) hn h2).mono fun e w' ⟨he, hb, ho, hm⟩ => ⟨he, hb, .inr ⟨ho, hm⟩⟩
theorem c23h (K : Int) (x : N10) (a : Option Addr) (g c : Nat) (w : World) (hK1 : 1 ≤ K) (hK2 : K ≤ 5000000) (hn : x.ls.length ≤ 1048576) (hh : x.ls = [] ∨ (a = some ⟨g, 0, none⟩ ∧ g < w.heap.size ∧ MarksAt K w g x.ls.length)) :
    Calls Tryd.prog 23 #[.slice a x.ls.length c, .int .i64 K] w fun e w' => e = .returned (.int .i64 (K + 4 * (x.ls.length : Int))) ∧ Below w.heap.size w w' := by
  rcases hh with h | ⟨h1, h2, h3⟩
  · rw [h]
    exact c23 K a g 0 c w hK1 hK2 (.inl rfl) (by omega) (.inl rfl) (fun j h => absurd h (Nat.not_lt_zero _))
  · exact c23 K a g x.ls.length c w hK1 hK2 (.inr h1) hn (.inr h2) h3
set_option maxHeartbeats 2000000 in
set_option maxRecDepth 100000 in
theorem c7 (K : Int) (x : N10) (a : Option Addr) (g c : Nat) (w : World) (hK1 : 1 ≤ K) (hK2 : K ≤ 5000000) (hn : x.ls.length ≤ 1048576) (hh : x.ls = [] ∨ (a = some ⟨g, 0, none⟩ ∧ Open4 w g x.ls.length)) :
    Calls Tryd.prog 7 #[.agg #[.int .i64 x.kd, .int .i64 x.ep, .string x.fn, .string x.ft, .string x.km.nm, .string x.km.tl, .string x.km.ar, .slice a x.ls.length c, .int .i64 x.cd, .string x.tx], .int .i64 K] w fun e w' => e = .returned (.int .i64 (K + 4 * (x.ls.length : Int))) ∧ But g w w' ∧ (x.ls = [] ∨ (Open4 w' g x.ls.length ∧ MarksAt K w' g x.ls.length)) := by
  have HH : Hid (x.ls = [] ∨ (a = some ⟨g, 0, none⟩ ∧ Open4 w g x.ls.length)) := hh
  have hB0 : Below w.heap.size w (w.alloc (.cells #[.int .i64 x.kd, .int .i64 x.ep, .string x.fn, .string x.ft, .string x.km.nm, .string x.km.tl, .string x.km.ar, .slice a x.ls.length c, .int .i64 x.cd, .string x.tx] 30)) := (Below.refl _ _).alloc (Nat.le_refl _) _
  clear hh
  go_enter Tryd.func7, Tryd.ntmps7
  go_wp2_with fail
  refine (c22h K x a g c _ hK1 hK2 hn (HH.out.imp id fun h => ⟨h.1, h.2.below hB0⟩)).mono ?_
  rintro e w1 ⟨rfl, hb1, hm1⟩
  have HB1 : Hid (But g w w1) := (But.of_below hB0).trans hb1
  have HM1 : Hid (x.ls = [] ∨ (Open4 w1 g x.ls.length ∧ MarksAt K w1 g x.ls.length)) := hm1
  clear hb1 hm1 hB0
  go_wp2
  go_ret
  exact ⟨rfl, HB1.out, HM1.out⟩
theorem c7v (K : Int) (x : N10) (a : Option Addr) (g c : Nat) (w : World) (hK1 : 1 ≤ K) (hK2 : K ≤ 5000000) (hn : x.ls.length ≤ 1048576) (hh : x.ls = [] ∨ (a = some ⟨g, 0, none⟩ ∧ Open4 w g x.ls.length)) :
    Calls Tryd.prog 7 #[.agg (x.c a c).toArray, .int .i64 K] w fun e w' => e = .returned (.int .i64 (K + 4 * (x.ls.length : Int))) ∧ But g w w' ∧ (x.ls = [] ∨ (Open4 w' g x.ls.length ∧ MarksAt K w' g x.ls.length)) := c7 K x a g c w hK1 hK2 hn hh
set_option maxHeartbeats 2000000 in
set_option maxRecDepth 100000 in
theorem c8 (K : Int) (x : N10) (a : Option Addr) (g c : Nat) (w : World) (hK1 : 1 ≤ K) (hK2 : K ≤ 5000000) (hn : x.ls.length ≤ 1048576) (hh : x.ls = [] ∨ (a = some ⟨g, 0, none⟩ ∧ g < w.heap.size ∧ MarksAt K w g x.ls.length)) :
    Calls Tryd.prog 8 #[.agg #[.int .i64 x.kd, .int .i64 x.ep, .string x.fn, .string x.ft, .string x.km.nm, .string x.km.tl, .string x.km.ar, .slice a x.ls.length c, .int .i64 x.cd, .string x.tx], .int .i64 K] w fun e w' => e = .returned (.int .i64 (K + 4 * (x.ls.length : Int))) ∧ Below w.heap.size w w' := by
  have HH : Hid (x.ls = [] ∨ (a = some ⟨g, 0, none⟩ ∧ g < w.heap.size ∧ MarksAt K w g x.ls.length)) := hh
  have hB0 : Below w.heap.size w (w.alloc (.cells #[.int .i64 x.kd, .int .i64 x.ep, .string x.fn, .string x.ft, .string x.km.nm, .string x.km.tl, .string x.km.ar, .slice a x.ls.length c, .int .i64 x.cd, .string x.tx] 30)) := (Below.refl _ _).alloc (Nat.le_refl _) _
  clear hh
  go_enter Tryd.func8, Tryd.ntmps8
  go_wp2_with fail
  refine (c23h K x a g c _ hK1 hK2 hn (HH.out.imp id fun h => ⟨h.1, Nat.lt_of_lt_of_le h.2.1 hB0.size, marks_below h.2.2 h.2.1 hB0⟩)).mono ?_
  rintro e w1 ⟨rfl, hb1⟩
  have HB1 : Hid (Below w.heap.size w w1) := hB0.trans (hb1.mono hB0.size)
  have hpos : ¬ (K + 4 * (x.ls.length : Int)) < 0 := by omega
  clear hb1 hB0
  go_wp2
  go_ret
  exact ⟨rfl, HB1.out⟩
theorem c8v (K : Int) (x : N10) (a : Option Addr) (g c : Nat) (w : World) (hK1 : 1 ≤ K) (hK2 : K ≤ 5000000) (hn : x.ls.length ≤ 1048576) (hh : x.ls = [] ∨ (a = some ⟨g, 0, none⟩ ∧ g < w.heap.size ∧ MarksAt K w g x.ls.length)) :
    Calls Tryd.prog 8 #[.agg (x.c a c).toArray, .int .i64 K] w fun e w' => e = .returned (.int .i64 (K + 4 * (x.ls.length : Int))) ∧ Below w.heap.size w w' := c8 K x a g c w hK1 hK2 hn hh
end Go.Proofs.YtejlfpolnddfdaaDoor
namespace Go.Proofs.YtejlfpolnddfdaaDoor
open Go.RowKit
set_option maxHeartbeats 16000000 in
set_option maxRecDepth 100000 in
theorem c3 (s : ByteArray) (w : World) (hmx : MaxAt w) (hs0 : s.size ≤ 9223372036854775807) :
    Calls Tryd.prog 3 #[.string s] w fun e w' => e = .returned (.bool true) ∧ Below w.heap.size w w' := by
  by_cases hs : s.size ≤ 1048576
  · by_cases hk : True
    · have h1 : decide (1048576 < (s.size : Int)) = false := by simp; omega
      have HM : Hid (MaxAt w) := hmx
      clear hmx
      go_enter Tryd.func3, Tryd.ntmps3
      go_wp2_with fail
      refine (c4 s _ hs).mono ?_
      rintro e w1 ⟨⟨x, a, ai, ci, rfl, hx, hz, hle, hlk⟩, hb1⟩
      have HX : Hid (RES s.data.toList x a) := hx
      have HZ : Hid (a = false → x = n10z) := fun h => (hz h).1
      have hn : x.ls.length ≤ 1048576 := hle.2.2.2.1.1
      clear hx hz
      have hF1 : BlkAt (fill (w1.alloc (.cells #[.int .i64 0, .int .i64 0, .string ⟨#[]⟩, .string ⟨#[]⟩, .string ⟨#[]⟩, .string ⟨#[]⟩, .string ⟨#[]⟩, .slice none 0 0, .int .i64 0, .string ⟨#[]⟩] 30)) w1.heap.size 0 (x.c ai ci)) w1.heap.size (x.c ai ci) := BlkAt.fill (B := w1.heap.size) (x.c ai ci) [] zE [] 0 (blk_new w1 zE 30) rfl rfl
      have hbF1 : Below w1.heap.size w1 (fill (w1.alloc (.cells #[.int .i64 0, .int .i64 0, .string ⟨#[]⟩, .string ⟨#[]⟩, .string ⟨#[]⟩, .string ⟨#[]⟩, .string ⟨#[]⟩, .slice none 0 0, .int .i64 0, .string ⟨#[]⟩] 30)) w1.heap.size 0 (x.c ai ci)) := below_fill (Nat.le_refl _) _ 0 ((Below.refl _ _).alloc (Nat.le_refl _) _)
      have hzF1 : w1.heap.size < (fill (w1.alloc (.cells #[.int .i64 0, .int .i64 0, .string ⟨#[]⟩, .string ⟨#[]⟩, .string ⟨#[]⟩, .string ⟨#[]⟩, .string ⟨#[]⟩, .slice none 0 0, .int .i64 0, .string ⟨#[]⟩] 30)) w1.heap.size 0 (x.c ai ci)).heap.size := by rw [size_fill]; simp
      have hB1 : Below w.heap.size w (fill (w1.alloc (.cells #[.int .i64 0, .int .i64 0, .string ⟨#[]⟩, .string ⟨#[]⟩, .string ⟨#[]⟩, .string ⟨#[]⟩, .string ⟨#[]⟩, .slice none 0 0, .int .i64 0, .string ⟨#[]⟩] 30)) w1.heap.size 0 (x.c ai ci)) := hb1.trans (hbF1.mono hb1.size)
      have hL1 : LksAt (fill (w1.alloc (.cells #[.int .i64 0, .int .i64 0, .string ⟨#[]⟩, .string ⟨#[]⟩, .string ⟨#[]⟩, .string ⟨#[]⟩, .string ⟨#[]⟩, .slice none 0 0, .int .i64 0, .string ⟨#[]⟩] 30)) w1.heap.size 0 (x.c ai ci)) ai x.ls := lks_below hlk hbF1
      clear hlk
      have hmark : True := trivial
      go_wp2_with (refine wpList_store_blk rfl 30 (.tmp 3) (.tmp 17) rfl w1.heap.size 0 rfl (x.c ai ci) rfl (blk_some (blk_new w1 zE 30) _ rfl) (opn_new w1 _ 30) (N10.c_one _ _ _) (by kernel_rfl) rfl ?_; revert hmark)
      intro _
      generalize (fill (w1.alloc (.cells #[.int .i64 0, .int .i64 0, .string ⟨#[]⟩, .string ⟨#[]⟩, .string ⟨#[]⟩, .string ⟨#[]⟩, .string ⟨#[]⟩, .slice none 0 0, .int .i64 0, .string ⟨#[]⟩] 30)) w1.heap.size 0 (x.c ai ci)) = U1 at *
      generalize w1.heap.size = B5 at *
      clear hbF1 hb1
      go_wp2_with fail
      refine (c5 s _ hs (max_below HM.out hB1)).mono ?_
      rintro e w2 ⟨⟨y, b, bi, di, rfl, hy, hzy, _, hown⟩, hb2⟩
      obtain ⟨hab, hxy⟩ := re_same HX.out hy HZ.out (fun h => (hzy h).1)
      subst hab hxy
      clear hy hzy
      have hF2 : BlkAt (fill (w2.alloc (.cells #[.int .i64 0, .int .i64 0, .string ⟨#[]⟩, .string ⟨#[]⟩, .string ⟨#[]⟩, .string ⟨#[]⟩, .string ⟨#[]⟩, .slice none 0 0, .int .i64 0, .string ⟨#[]⟩] 30)) w2.heap.size 0 (x.c bi di)) w2.heap.size (x.c bi di) := BlkAt.fill (B := w2.heap.size) (x.c bi di) [] zE [] 0 (blk_new w2 zE 30) rfl rfl
      have hbF2 : Below w2.heap.size w2 (fill (w2.alloc (.cells #[.int .i64 0, .int .i64 0, .string ⟨#[]⟩, .string ⟨#[]⟩, .string ⟨#[]⟩, .string ⟨#[]⟩, .string ⟨#[]⟩, .slice none 0 0, .int .i64 0, .string ⟨#[]⟩] 30)) w2.heap.size 0 (x.c bi di)) := below_fill (Nat.le_refl _) _ 0 ((Below.refl _ _).alloc (Nat.le_refl _) _)
      have hzF2 : w2.heap.size < (fill (w2.alloc (.cells #[.int .i64 0, .int .i64 0, .string ⟨#[]⟩, .string ⟨#[]⟩, .string ⟨#[]⟩, .string ⟨#[]⟩, .string ⟨#[]⟩, .slice none 0 0, .int .i64 0, .string ⟨#[]⟩] 30)) w2.heap.size 0 (x.c bi di)).heap.size := by rw [size_fill]; simp
      have hb12 : Below U1.heap.size U1 (fill (w2.alloc (.cells #[.int .i64 0, .int .i64 0, .string ⟨#[]⟩, .string ⟨#[]⟩, .string ⟨#[]⟩, .string ⟨#[]⟩, .string ⟨#[]⟩, .slice none 0 0, .int .i64 0, .string ⟨#[]⟩] 30)) w2.heap.size 0 (x.c bi di)) := hb2.trans (hbF2.mono hb2.size)
      have hO2 : LkOwn (fill (w2.alloc (.cells #[.int .i64 0, .int .i64 0, .string ⟨#[]⟩, .string ⟨#[]⟩, .string ⟨#[]⟩, .string ⟨#[]⟩, .string ⟨#[]⟩, .slice none 0 0, .int .i64 0, .string ⟨#[]⟩] 30)) w2.heap.size 0 (x.c bi di)) U1.heap.size bi x.ls := LkOwn.bel hown hbF2
      have hz12 : U1.heap.size ≤ w2.heap.size := hb2.size
      have hgx : ∃ g, (x.ls = [] ∨ (bi = some ⟨g, 0, none⟩ ∧ Open4 (fill (w2.alloc (.cells #[.int .i64 0, .int .i64 0, .string ⟨#[]⟩, .string ⟨#[]⟩, .string ⟨#[]⟩, .string ⟨#[]⟩, .string ⟨#[]⟩, .slice none 0 0, .int .i64 0, .string ⟨#[]⟩] 30)) w2.heap.size 0 (x.c bi di)) g x.ls.length)) ∧ U1.heap.size ≤ g ∧ g ≠ w2.heap.size := by
        rcases hown.own with h | ⟨g, h1, h2, h3⟩
        · exact ⟨w2.heap.size + 1, .inl h, by omega, by omega⟩
        · exact ⟨g, .inr ⟨h1, h3.below hbF2⟩, h2, by have := h3.1; omega⟩
      clear hown hb2 hbF2
      have hmark : True := trivial
      go_wp2_with (refine wpList_store_blk rfl 30 (.tmp 5) (.tmp 22) rfl w2.heap.size 0 rfl (x.c bi di) rfl (blk_some (blk_new w2 zE 30) _ rfl) (opn_new w2 _ 30) (N10.c_one _ _ _) (by kernel_rfl) rfl ?_; revert hmark)
      intro _
      generalize (fill (w2.alloc (.cells #[.int .i64 0, .int .i64 0, .string ⟨#[]⟩, .string ⟨#[]⟩, .string ⟨#[]⟩, .string ⟨#[]⟩, .string ⟨#[]⟩, .slice none 0 0, .int .i64 0, .string ⟨#[]⟩] 30)) w2.heap.size 0 (x.c bi di)) = U2 at *
      generalize w2.heap.size = B7 at *
      obtain ⟨g, hg, hg1, hg2⟩ := hgx
      have hL2 : LksAt U2 ai x.ls := lks_below hL1 hb12
      have h5 : BlkAt U2 B5 (x.c ai ci) := hF1.below hb12 hzF1
      have hB2 : Below w.heap.size w U2 := hB1.trans (hb12.mono hB1.size)
      go_wp2_with (first | refine wpList_load_blk rfl 30 (.tmp 5) rfl B7 rfl (x.c bi di) _ hF2 Tryd.underlying30 rfl (by kernel_rfl) ?_ | refine wpList_load_blk rfl 30 (.tmp 3) rfl B5 rfl (x.c ai ci) _ h5 Tryd.underlying30 rfl (by kernel_rfl) ?_)
      refine (c6v x bi ai di ci _ hn hO2.at' hL2).mono ?_
      rintro e w3 ⟨rfl, hb3⟩
      have hb13 : Below U1.heap.size U1 w3 := hb12.trans (hb3.mono hb12.size)
      have h73 : BlkAt w3 B7 (x.c bi di) := hF2.below hb3 hzF2
      have hz23 : U2.heap.size ≤ w3.heap.size := hb3.size
      have hg3 : x.ls = [] ∨ (bi = some ⟨g, 0, none⟩ ∧ Open4 w3 g x.ls.length) := hg.imp id (fun h => ⟨h.1, h.2.below hb3⟩)
      clear hb3 hg h5 hF2 hL2 hO2
      go_wp2_with (refine wpList_load_blk rfl 30 (.tmp 5) rfl B7 rfl (x.c bi di) _ h73 Tryd.underlying30 rfl (by kernel_rfl) ?_)
      refine (c7v 1 x bi g di _ (by omega) (by omega) hn hg3).mono ?_
      rintro e w4 ⟨rfl, hbu, hmk⟩
      have hb34 : Below U1.heap.size w3 w4 := hbu.below hg1 (by have h := hb13.size; omega)
      have hb14 : Below U1.heap.size U1 w4 := hb13.trans hb34
      have h74 : BlkAt w4 B7 (x.c bi di) := fun j v hv => (hbu.cell (p := ⟨B7, j, none⟩) (by show B7 < w3.heap.size; omega) (by show B7 ≠ g; omega)).trans (h73 j v hv)
      have hz34 : w3.heap.size ≤ w4.heap.size := hbu.size
      have HMK : Hid (x.ls = [] ∨ (bi = some ⟨g, 0, none⟩ ∧ g < w4.heap.size ∧ MarksAt 1 w4 g x.ls.length)) := by
        rcases hmk with h | ⟨h1, h2⟩
        · exact .inl h
        · rcases hg3 with h | ⟨h3, _⟩
          · exact .inl h
          · exact .inr ⟨h3, h1.1, h2⟩
      have hB4 : Below w.heap.size w w4 := hB1.trans (hb14.mono hB1.size)
      clear hbu hmk hg3 h73 hb34 hb13
      generalize hq : (1 : Int) + 4 * (x.ls.length : Int) = Q at *
      have hQ0 : 0 ≤ Q := by omega
      go_wp2_with (refine wpList_load_blk rfl 30 (.tmp 5) rfl B7 rfl (x.c bi di) _ h74 Tryd.underlying30 rfl (by kernel_rfl) ?_)
      refine (c8v 1 x bi g di _ (by omega) (by omega) hn HMK.out).mono ?_
      rintro e w5 ⟨rfl, hb5⟩
      rw [hq]
      have hb15 : Below U1.heap.size U1 w5 := hb14.trans (hb5.mono hb14.size)
      have hz45 : w4.heap.size ≤ w5.heap.size := hb5.size
      have h75 : BlkAt w5 B7 (x.c bi di) := h74.below hb5 (by omega)
      have HMK5 : Hid (x.ls = [] ∨ (bi = some ⟨g, 0, none⟩ ∧ g < w5.heap.size ∧ MarksAt 1 w5 g x.ls.length)) := HMK.out.imp id (fun h => ⟨h.1, by have := h.2.1; omega, marks_below h.2.2 h.2.1 hb5⟩)
      have hB5 : Below w.heap.size w w5 := hB1.trans (hb15.mono hB1.size)
      clear hb5 h74 HMK hb14 hB4
      have hq1 : decide (Q < 0) = false := by simp; omega
      go_wp2_with fail
      refine (c5 s _ hs (max_below HM.out hB5)).mono ?_
      rintro e w6 ⟨⟨y, b, zi, ei, rfl, hy, hzy, _, hown⟩, hb6⟩
      obtain ⟨hab, hxy⟩ := re_same HX.out hy HZ.out (fun h => (hzy h).1)
      subst hab hxy
      clear hy hzy
      have hF6 : BlkAt (fill (w6.alloc (.cells #[.int .i64 0, .int .i64 0, .string ⟨#[]⟩, .string ⟨#[]⟩, .string ⟨#[]⟩, .string ⟨#[]⟩, .string ⟨#[]⟩, .slice none 0 0, .int .i64 0, .string ⟨#[]⟩] 30)) w6.heap.size 0 (x.c zi ei)) w6.heap.size (x.c zi ei) := BlkAt.fill (B := w6.heap.size) (x.c zi ei) [] zE [] 0 (blk_new w6 zE 30) rfl rfl
      have hbF6 : Below w6.heap.size w6 (fill (w6.alloc (.cells #[.int .i64 0, .int .i64 0, .string ⟨#[]⟩, .string ⟨#[]⟩, .string ⟨#[]⟩, .string ⟨#[]⟩, .string ⟨#[]⟩, .slice none 0 0, .int .i64 0, .string ⟨#[]⟩] 30)) w6.heap.size 0 (x.c zi ei)) := below_fill (Nat.le_refl _) _ 0 ((Below.refl _ _).alloc (Nat.le_refl _) _)
      have hzF6 : w6.heap.size < (fill (w6.alloc (.cells #[.int .i64 0, .int .i64 0, .string ⟨#[]⟩, .string ⟨#[]⟩, .string ⟨#[]⟩, .string ⟨#[]⟩, .string ⟨#[]⟩, .slice none 0 0, .int .i64 0, .string ⟨#[]⟩] 30)) w6.heap.size 0 (x.c zi ei)).heap.size := by rw [size_fill]; simp
      have hb56 : Below w5.heap.size w5 (fill (w6.alloc (.cells #[.int .i64 0, .int .i64 0, .string ⟨#[]⟩, .string ⟨#[]⟩, .string ⟨#[]⟩, .string ⟨#[]⟩, .string ⟨#[]⟩, .slice none 0 0, .int .i64 0, .string ⟨#[]⟩] 30)) w6.heap.size 0 (x.c zi ei)) := hb6.trans (hbF6.mono hb6.size)
      have hO6 : LksAt (fill (w6.alloc (.cells #[.int .i64 0, .int .i64 0, .string ⟨#[]⟩, .string ⟨#[]⟩, .string ⟨#[]⟩, .string ⟨#[]⟩, .string ⟨#[]⟩, .slice none 0 0, .int .i64 0, .string ⟨#[]⟩] 30)) w6.heap.size 0 (x.c zi ei)) zi x.ls := lks_below hown.at' hbF6
      have hz56 : w5.heap.size ≤ w6.heap.size := hb6.size
      clear hown hb6 hbF6
      have hmark : True := trivial
      go_wp2_with (refine wpList_store_blk rfl 30 (.tmp 9) (.tmp 47) rfl w6.heap.size 0 rfl (x.c zi ei) rfl (blk_some (blk_new w6 zE 30) _ rfl) (opn_new w6 _ 30) (N10.c_one _ _ _) (by kernel_rfl) rfl ?_; revert hmark)
      intro _
      generalize (fill (w6.alloc (.cells #[.int .i64 0, .int .i64 0, .string ⟨#[]⟩, .string ⟨#[]⟩, .string ⟨#[]⟩, .string ⟨#[]⟩, .string ⟨#[]⟩, .slice none 0 0, .int .i64 0, .string ⟨#[]⟩] 30)) w6.heap.size 0 (x.c zi ei)) = U6 at *
      generalize w6.heap.size = B11 at *
      have hb16 : Below U1.heap.size U1 U6 := hb15.trans (hb56.mono hb15.size)
      have hL6 : LksAt U6 ai x.ls := lks_below hL1 hb16
      have h56 : BlkAt U6 B5 (x.c ai ci) := hF1.below hb16 hzF1
      have h76 : BlkAt U6 B7 (x.c bi di) := h75.below hb56 (by omega)
      have HMK6 : Hid (x.ls = [] ∨ (bi = some ⟨g, 0, none⟩ ∧ g < U6.heap.size ∧ MarksAt 1 U6 g x.ls.length)) := HMK5.out.imp id (fun h => ⟨h.1, by have h1 := h.2.1; have h2 := hb56.size; omega, marks_below h.2.2 h.2.1 hb56⟩)
      have hB6 : Below w.heap.size w U6 := hB1.trans (hb16.mono hB1.size)
      go_wp2_with (first | refine wpList_load_blk rfl 30 (.tmp 9) rfl B11 rfl (x.c zi ei) _ hF6 Tryd.underlying30 rfl (by kernel_rfl) ?_ | refine wpList_load_blk rfl 30 (.tmp 3) rfl B5 rfl (x.c ai ci) _ h56 Tryd.underlying30 rfl (by kernel_rfl) ?_)
      refine (c6v x zi ai ei ci _ hn hO6 hL6).mono ?_
      rintro e w7 ⟨rfl, hb7⟩
      have h77 : BlkAt w7 B7 (x.c bi di) := h76.below hb7 (by have h1 := hb56.size; omega)
      have HMK7 : Hid (x.ls = [] ∨ (bi = some ⟨g, 0, none⟩ ∧ g < w7.heap.size ∧ MarksAt 1 w7 g x.ls.length)) := HMK6.out.imp id (fun h => ⟨h.1, by have h1 := h.2.1; have h2 := hb7.size; omega, marks_below h.2.2 h.2.1 hb7⟩)
      have hB7 : Below w.heap.size w w7 := hB6.trans (hb7.mono hB6.size)
      clear hb7 h76 h56 hL6 HMK6 HMK5 hB6 hb16 hb56 hF6 hO6
      go_wp2_with (refine wpList_load_blk rfl 30 (.tmp 5) rfl B7 rfl (x.c bi di) _ h77 Tryd.underlying30 rfl (by kernel_rfl) ?_)
      refine (c8v 1 x bi g di _ (by omega) (by omega) hn HMK7.out).mono ?_
      rintro e w8 ⟨rfl, hb8⟩
      rw [hq]
      have hB8 : Below w.heap.size w w8 := hB7.trans (hb8.mono hB7.size)
      go_wp2
      go_ret
      exact ⟨rfl, hB8⟩
    · exact absurd trivial hk
  · have h1 : decide (1048576 < (s.size : Int)) = true := by simp; omega
    go_enter Tryd.func3, Tryd.ntmps3
    go_wp2
    go_ret
    exact ⟨rfl, Below.refl _ _⟩
end Go.Proofs.YtejlfpolnddfdaaDoor
