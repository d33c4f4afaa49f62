import Derived.Test.YtejlfpolnddfdaaDoorRT
import Derived.Test.YtejlfpolnddfdaaDoorR3
import Derived.Test.YtejlfpolnddfdaaDoorQE
import Derived.Deep.RegionHeld3
namespace Go.Proofs.YtejlfpolnddfdaaDoor
open Go.RowKit
/-- A result read loosely. -/
def LsRes (l : List UInt8) (c : Int) (t : ByteArray) : Prop := ∀ c' t', 0 ≤ c' → c' ≤ 7 → l = resL c' t' → c = c' ∧ t = t'
def Is50 (l : List UInt8) (e : Ending) : Prop := ∃ (c : Int) (t : ByteArray), e = .returned (.agg #[.int .i64 c, .string t]) ∧ LsRes l c t ∧ t.size ≤ 1048576
theorem c10o (l : List UInt8) (w : World) (hs : l.length ≤ 1048700) (K : Nat) (h1 : 1 ≤ K) (h2 : K ≤ 10) :
    Calls Tryd.prog 10 #[.string (ofL l), .int .i64 K] w fun e w' => (∃ g cp, e = .returned (.tuple #[.slice (some ⟨g, 0, none⟩) K cp, .string (ofL (restN l K))]) ∧ w.heap.size ≤ g ∧ LinesAt w' g (wordsN l K)) ∧ Below w.heap.size w w' :=
  c10k K h1 h2 (ofL l) w (by rw [ofL_size]; exact hs)
set_option maxHeartbeats 4000000 in
set_option maxRecDepth 100000 in
theorem c14 (l : List UInt8) (w : World) (hs : l.length ≤ 16000) :
    Calls Tryd.prog 14 #[.string (ofL l)] w fun e w' => Is50 l e ∧ Below w.heap.size w w' := by
  have hB0 : Below w.heap.size w (w.alloc (.cells #[.int .i64 0, .string ⟨#[]⟩] 28)) := (Below.refl _ _).alloc (Nat.le_refl _) _
  have hr := rest_small l
  go_enter Tryd.func14, Tryd.ntmps14
  go_wp2_with fail
  refine (c10o l _ (by omega) 1 (by omega) (by omega)).mono ?_
  rintro e w1 ⟨⟨g, cp, rfl, hg0, hln⟩, hb1⟩
  have c0 : w1.cell? ⟨g, 0, none⟩ = some (.string (ofL (wordOf l))) := hln.2 0 (by simp [wordsN])
  have hg1 := hln.1
  have hx1 : Below (w.heap.size + 1) (w.alloc (.cells #[.int .i64 0, .string ⟨#[]⟩] 28)) w1 := by simpa using hb1
  have hg2 : w.heap.size < g := by have h := hg0; simp at h; omega
  clear hb1 hln hg0
  go_wp2_with fail
  refine (c11 (ofL (wordOf l)) _ (by rw [ofL_size]; omega)).mono ?_
  rintro e w2 ⟨rfl, hb2⟩
  rw [ofL_list]
  have hx2 := hx1.trans (hb2.mono (by have h := hx1.size; simp at h; omega))
  clear hb2
  go_wp2_with fail
  refine (c12 (ofL (restOf l)) _ (by rw [ofL_size]; omega)).mono ?_
  rintro e w3 ⟨⟨t, rfl, htl, htq⟩, hb3⟩
  have hx3 := hx2.trans (hb3.mono (by have h := hx2.size; simp at h; omega))
  clear hb3
  have hB3 : Below w.heap.size w w3 := hB0.trans (hx3.mono (by omega))
  rw [ofL_size] at htl
  have HI : Hid (Is50 l (.returned (.agg #[.int .i64 (n29 (wordOf l)), .string (ofL t)]))) := ⟨_, _, rfl, fun c' t' h0 h7 e => by
    obtain ⟨e1, e2⟩ := res_parts t' h0
    rw [← e] at e1 e2
    refine ⟨by rw [e1]; exact n29_back h0 (by omega), ?_⟩
    rw [htq t'.data.toList (by rw [ofL_list]; exact e2)]
    rfl, by rw [ofL_size]; omega⟩
  clear htq
  obtain ⟨⟨z0, z1⟩, y0, y1⟩ := rz2 hx3
  go_wp2
  have F := set2_at w3 w.heap.size 0 (.int .i64 (n29 (wordOf l))) (.string (ofL t)) _ _ z0 z1
  simp only [Nat.zero_add] at F
  refine bodyPost_ret (v := .agg #[.int .i64 (n29 (wordOf l)), .string (ofL t)]) (by simp [results, Tryd.results14, go_sem, F.1, F.2]) rfl ⟨HI.out, (hB3.setCell (by simp) _).setCell (by simp) _⟩
/-- A look read loosely. -/
def LsLook (l : List UInt8) (x : L4) (ok : Bool) : Prop := (∀ y, LkOk y → l = lookB y → ok = true ∧ x = y) ∧ (l = [] → ok = false)
def Is49 (l : List UInt8) (e : Ending) : Prop := ∃ (x : L4) (ok : Bool), e = .returned (.tuple #[x.v, .bool ok]) ∧ LsLook l x ok ∧ x.le 1048576
theorem ls_no {l : List UInt8} (h : isW l = false) (x : L4) : LsLook l x false := by
  refine ⟨fun y hy e => ?_, fun _ => rfl⟩
  obtain ⟨a, _⟩ := look_parts hy.1
  rw [← e] at a
  rw [(word_isW a).1] at h; cases h
theorem ls_yes {l : List UInt8} {c : Int} {t : ByteArray} (h : isW l = true) (hr : LsRes (restOf (restOf l)) c t) : LsLook l ⟨hasW l, ofL (wordOf (restOf l)), c, t⟩ true := by
  constructor
  · intro y hy e
    obtain ⟨a, b, d⟩ := look_parts hy.1
    rw [← e] at a b d
    obtain ⟨h1, h2⟩ := hr _ _ (lk_code hy).1 (lk_code hy).2 d
    refine ⟨rfl, ?_⟩
    rw [(word_isW a).2, b, h1, h2]
    rfl
  · intro e; subst e; revert h; decide
set_option maxHeartbeats 4000000 in
set_option maxRecDepth 100000 in
theorem c13 (l : List UInt8) (w : World) (hs : l.length ≤ 16000) :
    Calls Tryd.prog 13 #[.string (ofL l)] w fun e w' => Is49 l e ∧ Below w.heap.size w w' := by
  have hB0 : Below w.heap.size w (w.alloc (.cells #[.bool false, .string ⟨#[]⟩, .int .i64 0, .string ⟨#[]⟩] 43)) := (Below.refl _ _).alloc (Nat.le_refl _) _
  have hr := rest_small l
  have hr2 := rest_small (restOf l)
  have h1 := has_eq l
  have h2 := ask_eq l
  have hI : isW l = (hasW l || decide (wordOf l = [97, 115, 107])) := rfl
  go_enter Tryd.func13, Tryd.ntmps13
  go_wp2_with fail
  refine (c10o l _ (by omega) 2 (by omega) (by omega)).mono ?_
  rintro e w1 ⟨⟨g, cp, rfl, hg0, hln⟩, hb1⟩
  have c0 : w1.cell? ⟨g, 0, none⟩ = some (.string (ofL (wordOf l))) := hln.2 0 (by simp [wordsN])
  have c1 : w1.cell? ⟨g, 1, none⟩ = some (.string (ofL (wordOf (restOf l)))) := hln.2 1 (by simp [wordsN])
  have hg1 := hln.1
  have hx1 : Below (w.heap.size + 1) (w.alloc (.cells #[.bool false, .string ⟨#[]⟩, .int .i64 0, .string ⟨#[]⟩] 43)) w1 := by simpa using hb1
  have hg2 : w.heap.size < g := by have h := hg0; simp at h; omega
  have hB1 : Below w.heap.size w w1 := hB0.trans (hx1.mono (by omega))
  clear hb1 hln hg0
  obtain ⟨bA, oA⟩ := blk_keep (vs := [.bool false, .string ⟨#[]⟩, .int .i64 0, .string ⟨#[]⟩]) hx1
  have HNo : isW l = false → Hid (Is49 l (.returned (.tuple #[.agg #[.bool false, .string ⟨#[]⟩, .int .i64 0, .string ⟨#[]⟩], .bool false]))) := fun h => ⟨l4z, false, rfl, ls_no h _, ⟨Nat.zero_le _, Nat.zero_le _⟩⟩
  have HYes : isW l = true → ∀ c t, LsRes (restOf (restOf l)) c t → t.size ≤ 1048576 → Hid (Is49 l (.returned (.tuple #[.agg #[.bool (hasW l), .string (ofL (wordOf (restOf l))), .int .i64 c, .string t], .bool true]))) := fun h c t hq ht => ⟨⟨hasW l, ofL (wordOf (restOf l)), c, t⟩, true, rfl, ls_yes h hq, ⟨by show (ofL (wordOf (restOf l))).size ≤ 1048576; rw [ofL_size]; omega, ht⟩⟩
  have h50 := c14 (restOf (restOf l))
  have hrN : ofL (restN l 2) = ofL (restOf (restOf l)) := rfl
  rw [hrN]
  have hlen : (restOf (restOf l)).length ≤ 16000 := by omega
  clear hrN
  generalize restOf (restOf l) = R at *
  generalize ofL (wordOf (restOf l)) = B at *
  generalize decide (wordOf l = [97, 115, 107]) = a at *
  generalize hasW l = h at *
  generalize isW l = i at *
  generalize ofL (wordOf l) = s at *
  have hz1 : w.heap.size < w1.heap.size := by have h := hx1.size; simp at h; omega
  subst hI
  clear hr hr2
  cases h
  · cases a
    · have HI := HNo rfl
      clear HNo HYes h50
      go_wp2_with (refine wpList_store_blk rfl 43 (.tmp 2) (.tmp 21) rfl w.heap.size 0 rfl [.bool false, .string ⟨#[]⟩, .int .i64 0, .string ⟨#[]⟩] rfl (blk_some bA _ rfl) oA (by simp [Value.oneCell']) (by kernel_rfl) rfl ?_)
      have FF := BlkAt.fill (B := w.heap.size) [.bool false, .string ⟨#[]⟩, .int .i64 0, .string ⟨#[]⟩] [] [.bool false, .string ⟨#[]⟩, .int .i64 0, .string ⟨#[]⟩] [] 0 bA rfl rfl
      refine bodyPost_ret (v := .tuple #[.agg #[.bool false, .string ⟨#[]⟩, .int .i64 0, .string ⟨#[]⟩], .bool false]) (by exact results_blk2 Tryd.results13 _ _ w.heap.size _ _ _ rfl rfl FF Tryd.underlying43 rfl (by kernel_rfl)) rfl ⟨HI.out, by exact below_fill (Nat.le_refl _) _ 0 hB1⟩
    · clear HNo
      go_wp2_with fail
      refine wp_region_held_drew (S := (fun u => u.cell? ⟨g, 0, none⟩ = some (.string s) ∧ u.cell? ⟨g, 1, none⟩ = some (.string B))) (by kernel_rfl) ?_ (fun hHeld => ?_)
      · exact ⟨c0, c1⟩
      refine wpAnyH_take (i := 0) (oi := { dst := some 22, op := Op.move (Operand.tmp 4), type := 36, pos := "l6_log.go:68", after := #[], guard := none }) (v := ?_) rfl (by kernel_rfl) (by kernel_rfl) (by kernel_rfl) (fun _ _ _ h => h) (Or.inl ⟨by rfl, ?_⟩) (by assumption) ?_
      rotate_left
      · intro wq hSw
        (try dsimp only at hSw)
        go_simp
        try with_reducible rfl
      try simp only [Act.put, List.setIfInBounds_toArray, List.set_cons_zero, List.set_cons_succ]
      refine wpAnyH_take (i := 1) (oi := { dst := some 23, op := Op.indexAddr 36 (Operand.tmp 22) (Operand.const (Value.int IntKind.i64 0)), type := 0, pos := "l6_log.go:68", after := #[{ on := 0, ground := Ground.data }], guard := none }) (v := ?_) rfl (by kernel_rfl) (by kernel_rfl) (by kernel_rfl) (fun _ _ _ h => h) (Or.inl ⟨by rfl, ?_⟩) (by assumption) ?_
      rotate_left
      · intro wq hSw
        (try dsimp only at hSw)
        go_simp
        try with_reducible rfl
      try simp only [Act.put, List.setIfInBounds_toArray, List.set_cons_zero, List.set_cons_succ]
      refine wpAnyH_take (i := 2) (oi := { dst := some 24, op := Op.load 9 (Operand.tmp 23), type := 9, pos := "l6_log.go:68", after := #[{ on := 1, ground := Ground.data }], guard := none }) (v := ?_) rfl (by kernel_rfl) (by kernel_rfl) (by kernel_rfl) (fun _ _ _ h => h) (Or.inl ⟨by rfl, ?_⟩) (by assumption) ?_
      rotate_left
      · intro wq hSw
        (try dsimp only at hSw)
        go_simp
        try with_reducible rfl
      try simp only [Act.put, List.setIfInBounds_toArray, List.set_cons_zero, List.set_cons_succ]
      refine wpAnyH_take (i := 3) (oi := { dst := some 25, op := Op.binOp BinOp.eql 9 (Operand.tmp 24) (Operand.const (Value.string { data := #[104, 97, 115] })) 9, type := 4, pos := "l6_log.go:68", after := #[{ on := 2, ground := Ground.data }], guard := none }) (v := ?_) rfl (by kernel_rfl) (by kernel_rfl) (by kernel_rfl) (fun _ _ _ h => h) (Or.inl ⟨by rfl, ?_⟩) (by assumption) ?_
      rotate_left
      · intro wq hSw
        (try dsimp only at hSw)
        go_simp
        try with_reducible rfl
      try simp only [Act.put, List.setIfInBounds_toArray, List.set_cons_zero, List.set_cons_succ]
      refine wpAnyH_take (i := 4) (oi := { dst := some 26, op := Op.move (Operand.tmp 4), type := 36, pos := "l6_log.go:68", after := #[], guard := none }) (v := ?_) rfl (by kernel_rfl) (by kernel_rfl) (by kernel_rfl) (fun _ _ _ h => h) (Or.inl ⟨by rfl, ?_⟩) (by assumption) ?_
      rotate_left
      · intro wq hSw
        (try dsimp only at hSw)
        go_simp
        try with_reducible rfl
      try simp only [Act.put, List.setIfInBounds_toArray, List.set_cons_zero, List.set_cons_succ]
      refine wpAnyH_take (i := 5) (oi := { dst := some 27, op := Op.indexAddr 36 (Operand.tmp 26) (Operand.const (Value.int IntKind.i64 1)), type := 0, pos := "l6_log.go:68", after := #[{ on := 4, ground := Ground.data }], guard := none }) (v := ?_) rfl (by kernel_rfl) (by kernel_rfl) (by kernel_rfl) (fun _ _ _ h => h) (Or.inl ⟨by rfl, ?_⟩) (by assumption) ?_
      rotate_left
      · intro wq hSw
        (try dsimp only at hSw)
        go_simp
        try with_reducible rfl
      try simp only [Act.put, List.setIfInBounds_toArray, List.set_cons_zero, List.set_cons_succ]
      refine wpAnyH_take (i := 6) (oi := { dst := some 28, op := Op.load 9 (Operand.tmp 27), type := 9, pos := "l6_log.go:68", after := #[{ on := 5, ground := Ground.data }], guard := none }) (v := ?_) rfl (by kernel_rfl) (by kernel_rfl) (by kernel_rfl) (fun _ _ _ h => h) (Or.inl ⟨by rfl, ?_⟩) (by assumption) ?_
      rotate_left
      · intro wq hSw
        (try dsimp only at hSw)
        go_simp
        try with_reducible rfl
      try simp only [Act.put, List.setIfInBounds_toArray, List.set_cons_zero, List.set_cons_succ]
      refine wpAnyH_take (i := 7) (oi := { dst := some 29, op := Op.move (Operand.tmp 5), type := 9, pos := "l6_log.go:68", after := #[], guard := none }) (v := ?_) rfl (by kernel_rfl) (by kernel_rfl) (by kernel_rfl) (fun _ _ _ h => h) (Or.inl ⟨by rfl, ?_⟩) (by assumption) ?_
      rotate_left
      · intro wq hSw
        (try dsimp only at hSw)
        go_simp
        try with_reducible rfl
      try simp only [Act.put, List.setIfInBounds_toArray, List.set_cons_zero, List.set_cons_succ]
      refine wpAnyH_ready (rs := [8]) (by kernel_rfl) (by simp) ?_
      refine AllReadyH.cons (o := { dst := some 30, op := Op.call { callee := Callee.value (Operand.func 14), args := #[Operand.tmp 29], argTypes := #[9] }, type := 28, pos := "l6_log.go:68", after := #[{ on := 7, ground := Ground.data }], guard := none }) rfl (fun K hK => ?_) AllReadyH.nil
      go_simp
      refine (h50 _ hlen).mono ?_
      rintro e w2 ⟨⟨c, t, rfl, hrr, hts⟩, hb2⟩
      have hbc : Below w1.heap.size w1 w2 := ((Below.refl _ _).drew).trans hb2
      have hA2 := bA.below hbc hz1
      have hO2 := oA.below hbc hz1
      have hB2 : Below w.heap.size w w2 := hB1.trans (hbc.mono hB1.size)
      have HI := HYes (by first | rfl | trivial) c t hrr hts
      have e0 := (hbc.cell (p := ⟨g, 0, none⟩) hg1).trans c0
      have e1 := (hbc.cell (p := ⟨g, 1, none⟩) hg1).trans c1
      clear HYes hrr hb2 hbc
      go_wp2_with fail
      clear hHeld
      refine hK.out _ _ ?_ (fun hHeld => ?_)
      · exact ⟨e0, e1⟩
      clear hK K
      try simp only [Act.put, List.setIfInBounds_toArray, List.set_cons_zero, List.set_cons_succ]
      refine wpAnyH_take (i := 9) (oi := { dst := some 31, op := Op.build 43 #[(0, Operand.tmp 25), (1, Operand.tmp 28), (2, Operand.tmp 30)], type := 43, pos := "l6_log.go:68", after := #[{ on := 3, ground := Ground.data }, { on := 6, ground := Ground.data }, { on := 8, ground := Ground.data }], guard := none }) (v := ?_) rfl (by kernel_rfl) (by kernel_rfl) (by kernel_rfl) (fun _ _ _ h => h) (Or.inl ⟨by rfl, ?_⟩) (by assumption) ?_
      rotate_left
      · intro wq hSw
        (try dsimp only at hSw)
        go_simp
        try with_reducible rfl
      try simp only [Act.put, List.setIfInBounds_toArray, List.set_cons_zero, List.set_cons_succ]
      refine wpAnyH_ready (rs := [10]) (by kernel_rfl) (by simp) ?_
      refine AllReadyH.cons (o := { dst := none, op := Op.store 43 (Operand.tmp 2) (Operand.tmp 31), type := 0, pos := "l6_log.go:68", after := #[{ on := 9, ground := Ground.data }, { on := 8, ground := Ground.chain }, { on := 0, ground := Ground.phase }, { on := 1, ground := Ground.phase }, { on := 2, ground := Ground.phase }, { on := 3, ground := Ground.phase }, { on := 4, ground := Ground.phase }, { on := 5, ground := Ground.phase }, { on := 6, ground := Ground.phase }, { on := 7, ground := Ground.phase }, { on := 8, ground := Ground.phase }, { on := 9, ground := Ground.phase }], guard := none }) rfl (fun K hK => ?_) AllReadyH.nil
      refine step_store_blk rfl 43 (.tmp 2) (.tmp 31) rfl w.heap.size 0 rfl [.bool false, .string B, .int .i64 c, .string t] rfl (blk_some hA2 _ rfl) hO2 (by simp [Value.oneCell']) (by kernel_rfl) rfl ?_
      clear hHeld
      refine hK.out _ _ ?_ (fun hHeld => ?_)
      · exact ⟨(cell_fill _ 0 ⟨g, 0, none⟩ (by show g ≠ w.heap.size; omega)).trans e0, (cell_fill _ 0 ⟨g, 1, none⟩ (by show g ≠ w.heap.size; omega)).trans e1⟩
      clear hK K
      try simp only [Act.put, List.setIfInBounds_toArray, List.set_cons_zero, List.set_cons_succ]
      refine wpAnyH_take (i := 11) (oi := { dst := some 3, op := Op.assign (Operand.const (Value.bool true)), type := 4, pos := "l6_log.go:68", after := #[{ on := 10, ground := Ground.chain }, { on := 0, ground := Ground.phase }, { on := 1, ground := Ground.phase }, { on := 2, ground := Ground.phase }, { on := 3, ground := Ground.phase }, { on := 4, ground := Ground.phase }, { on := 5, ground := Ground.phase }, { on := 6, ground := Ground.phase }, { on := 7, ground := Ground.phase }, { on := 8, ground := Ground.phase }, { on := 9, ground := Ground.phase }, { on := 10, ground := Ground.phase }], guard := none }) (v := ?_) rfl (by kernel_rfl) (by kernel_rfl) (by kernel_rfl) (fun _ _ _ h => h) (Or.inl ⟨by rfl, ?_⟩) (by assumption) ?_
      rotate_left
      · intro wq hSw
        (try dsimp only at hSw)
        go_simp
        try with_reducible rfl
      try simp only [Act.put, List.setIfInBounds_toArray, List.set_cons_zero, List.set_cons_succ]
      refine wpAnyH_done (by kernel_rfl) ?_ _
      clear hHeld
      go_wp2
      have FF := BlkAt.fill (B := w.heap.size) [.bool false, .string B, .int .i64 c, .string t] [] [.bool false, .string ⟨#[]⟩, .int .i64 0, .string ⟨#[]⟩] [] 0 hA2 rfl rfl
      refine bodyPost_ret (v := .tuple #[.agg #[.bool false, .string B, .int .i64 c, .string t], .bool true]) (by exact results_blk2 Tryd.results13 _ _ w.heap.size _ _ _ rfl rfl FF Tryd.underlying43 rfl (by kernel_rfl)) rfl ⟨HI.out, by exact below_fill (Nat.le_refl _) _ 0 hB2⟩
  · clear HNo
    cases a
    · go_wp2_with fail
      refine wp_region_held_drew (S := (fun u => u.cell? ⟨g, 0, none⟩ = some (.string s) ∧ u.cell? ⟨g, 1, none⟩ = some (.string B))) (by kernel_rfl) ?_ (fun hHeld => ?_)
      · exact ⟨c0, c1⟩
      refine wpAnyH_take (i := 0) (oi := { dst := some 22, op := Op.move (Operand.tmp 4), type := 36, pos := "l6_log.go:68", after := #[], guard := none }) (v := ?_) rfl (by kernel_rfl) (by kernel_rfl) (by kernel_rfl) (fun _ _ _ h => h) (Or.inl ⟨by rfl, ?_⟩) (by assumption) ?_
      rotate_left
      · intro wq hSw
        (try dsimp only at hSw)
        go_simp
        try with_reducible rfl
      try simp only [Act.put, List.setIfInBounds_toArray, List.set_cons_zero, List.set_cons_succ]
      refine wpAnyH_take (i := 1) (oi := { dst := some 23, op := Op.indexAddr 36 (Operand.tmp 22) (Operand.const (Value.int IntKind.i64 0)), type := 0, pos := "l6_log.go:68", after := #[{ on := 0, ground := Ground.data }], guard := none }) (v := ?_) rfl (by kernel_rfl) (by kernel_rfl) (by kernel_rfl) (fun _ _ _ h => h) (Or.inl ⟨by rfl, ?_⟩) (by assumption) ?_
      rotate_left
      · intro wq hSw
        (try dsimp only at hSw)
        go_simp
        try with_reducible rfl
      try simp only [Act.put, List.setIfInBounds_toArray, List.set_cons_zero, List.set_cons_succ]
      refine wpAnyH_take (i := 2) (oi := { dst := some 24, op := Op.load 9 (Operand.tmp 23), type := 9, pos := "l6_log.go:68", after := #[{ on := 1, ground := Ground.data }], guard := none }) (v := ?_) rfl (by kernel_rfl) (by kernel_rfl) (by kernel_rfl) (fun _ _ _ h => h) (Or.inl ⟨by rfl, ?_⟩) (by assumption) ?_
      rotate_left
      · intro wq hSw
        (try dsimp only at hSw)
        go_simp
        try with_reducible rfl
      try simp only [Act.put, List.setIfInBounds_toArray, List.set_cons_zero, List.set_cons_succ]
      refine wpAnyH_take (i := 3) (oi := { dst := some 25, op := Op.binOp BinOp.eql 9 (Operand.tmp 24) (Operand.const (Value.string { data := #[104, 97, 115] })) 9, type := 4, pos := "l6_log.go:68", after := #[{ on := 2, ground := Ground.data }], guard := none }) (v := ?_) rfl (by kernel_rfl) (by kernel_rfl) (by kernel_rfl) (fun _ _ _ h => h) (Or.inl ⟨by rfl, ?_⟩) (by assumption) ?_
      rotate_left
      · intro wq hSw
        (try dsimp only at hSw)
        go_simp
        try with_reducible rfl
      try simp only [Act.put, List.setIfInBounds_toArray, List.set_cons_zero, List.set_cons_succ]
      refine wpAnyH_take (i := 4) (oi := { dst := some 26, op := Op.move (Operand.tmp 4), type := 36, pos := "l6_log.go:68", after := #[], guard := none }) (v := ?_) rfl (by kernel_rfl) (by kernel_rfl) (by kernel_rfl) (fun _ _ _ h => h) (Or.inl ⟨by rfl, ?_⟩) (by assumption) ?_
      rotate_left
      · intro wq hSw
        (try dsimp only at hSw)
        go_simp
        try with_reducible rfl
      try simp only [Act.put, List.setIfInBounds_toArray, List.set_cons_zero, List.set_cons_succ]
      refine wpAnyH_take (i := 5) (oi := { dst := some 27, op := Op.indexAddr 36 (Operand.tmp 26) (Operand.const (Value.int IntKind.i64 1)), type := 0, pos := "l6_log.go:68", after := #[{ on := 4, ground := Ground.data }], guard := none }) (v := ?_) rfl (by kernel_rfl) (by kernel_rfl) (by kernel_rfl) (fun _ _ _ h => h) (Or.inl ⟨by rfl, ?_⟩) (by assumption) ?_
      rotate_left
      · intro wq hSw
        (try dsimp only at hSw)
        go_simp
        try with_reducible rfl
      try simp only [Act.put, List.setIfInBounds_toArray, List.set_cons_zero, List.set_cons_succ]
      refine wpAnyH_take (i := 6) (oi := { dst := some 28, op := Op.load 9 (Operand.tmp 27), type := 9, pos := "l6_log.go:68", after := #[{ on := 5, ground := Ground.data }], guard := none }) (v := ?_) rfl (by kernel_rfl) (by kernel_rfl) (by kernel_rfl) (fun _ _ _ h => h) (Or.inl ⟨by rfl, ?_⟩) (by assumption) ?_
      rotate_left
      · intro wq hSw
        (try dsimp only at hSw)
        go_simp
        try with_reducible rfl
      try simp only [Act.put, List.setIfInBounds_toArray, List.set_cons_zero, List.set_cons_succ]
      refine wpAnyH_take (i := 7) (oi := { dst := some 29, op := Op.move (Operand.tmp 5), type := 9, pos := "l6_log.go:68", after := #[], guard := none }) (v := ?_) rfl (by kernel_rfl) (by kernel_rfl) (by kernel_rfl) (fun _ _ _ h => h) (Or.inl ⟨by rfl, ?_⟩) (by assumption) ?_
      rotate_left
      · intro wq hSw
        (try dsimp only at hSw)
        go_simp
        try with_reducible rfl
      try simp only [Act.put, List.setIfInBounds_toArray, List.set_cons_zero, List.set_cons_succ]
      refine wpAnyH_ready (rs := [8]) (by kernel_rfl) (by simp) ?_
      refine AllReadyH.cons (o := { dst := some 30, op := Op.call { callee := Callee.value (Operand.func 14), args := #[Operand.tmp 29], argTypes := #[9] }, type := 28, pos := "l6_log.go:68", after := #[{ on := 7, ground := Ground.data }], guard := none }) rfl (fun K hK => ?_) AllReadyH.nil
      go_simp
      refine (h50 _ hlen).mono ?_
      rintro e w2 ⟨⟨c, t, rfl, hrr, hts⟩, hb2⟩
      have hbc : Below w1.heap.size w1 w2 := ((Below.refl _ _).drew).trans hb2
      have hA2 := bA.below hbc hz1
      have hO2 := oA.below hbc hz1
      have hB2 : Below w.heap.size w w2 := hB1.trans (hbc.mono hB1.size)
      have HI := HYes (by first | rfl | trivial) c t hrr hts
      have e0 := (hbc.cell (p := ⟨g, 0, none⟩) hg1).trans c0
      have e1 := (hbc.cell (p := ⟨g, 1, none⟩) hg1).trans c1
      clear HYes hrr hb2 hbc
      go_wp2_with fail
      clear hHeld
      refine hK.out _ _ ?_ (fun hHeld => ?_)
      · exact ⟨e0, e1⟩
      clear hK K
      try simp only [Act.put, List.setIfInBounds_toArray, List.set_cons_zero, List.set_cons_succ]
      refine wpAnyH_take (i := 9) (oi := { dst := some 31, op := Op.build 43 #[(0, Operand.tmp 25), (1, Operand.tmp 28), (2, Operand.tmp 30)], type := 43, pos := "l6_log.go:68", after := #[{ on := 3, ground := Ground.data }, { on := 6, ground := Ground.data }, { on := 8, ground := Ground.data }], guard := none }) (v := ?_) rfl (by kernel_rfl) (by kernel_rfl) (by kernel_rfl) (fun _ _ _ h => h) (Or.inl ⟨by rfl, ?_⟩) (by assumption) ?_
      rotate_left
      · intro wq hSw
        (try dsimp only at hSw)
        go_simp
        try with_reducible rfl
      try simp only [Act.put, List.setIfInBounds_toArray, List.set_cons_zero, List.set_cons_succ]
      refine wpAnyH_ready (rs := [10]) (by kernel_rfl) (by simp) ?_
      refine AllReadyH.cons (o := { dst := none, op := Op.store 43 (Operand.tmp 2) (Operand.tmp 31), type := 0, pos := "l6_log.go:68", after := #[{ on := 9, ground := Ground.data }, { on := 8, ground := Ground.chain }, { on := 0, ground := Ground.phase }, { on := 1, ground := Ground.phase }, { on := 2, ground := Ground.phase }, { on := 3, ground := Ground.phase }, { on := 4, ground := Ground.phase }, { on := 5, ground := Ground.phase }, { on := 6, ground := Ground.phase }, { on := 7, ground := Ground.phase }, { on := 8, ground := Ground.phase }, { on := 9, ground := Ground.phase }], guard := none }) rfl (fun K hK => ?_) AllReadyH.nil
      refine step_store_blk rfl 43 (.tmp 2) (.tmp 31) rfl w.heap.size 0 rfl [.bool true, .string B, .int .i64 c, .string t] rfl (blk_some hA2 _ rfl) hO2 (by simp [Value.oneCell']) (by kernel_rfl) rfl ?_
      clear hHeld
      refine hK.out _ _ ?_ (fun hHeld => ?_)
      · exact ⟨(cell_fill _ 0 ⟨g, 0, none⟩ (by show g ≠ w.heap.size; omega)).trans e0, (cell_fill _ 0 ⟨g, 1, none⟩ (by show g ≠ w.heap.size; omega)).trans e1⟩
      clear hK K
      try simp only [Act.put, List.setIfInBounds_toArray, List.set_cons_zero, List.set_cons_succ]
      refine wpAnyH_take (i := 11) (oi := { dst := some 3, op := Op.assign (Operand.const (Value.bool true)), type := 4, pos := "l6_log.go:68", after := #[{ on := 10, ground := Ground.chain }, { on := 0, ground := Ground.phase }, { on := 1, ground := Ground.phase }, { on := 2, ground := Ground.phase }, { on := 3, ground := Ground.phase }, { on := 4, ground := Ground.phase }, { on := 5, ground := Ground.phase }, { on := 6, ground := Ground.phase }, { on := 7, ground := Ground.phase }, { on := 8, ground := Ground.phase }, { on := 9, ground := Ground.phase }, { on := 10, ground := Ground.phase }], guard := none }) (v := ?_) rfl (by kernel_rfl) (by kernel_rfl) (by kernel_rfl) (fun _ _ _ h => h) (Or.inl ⟨by rfl, ?_⟩) (by assumption) ?_
      rotate_left
      · intro wq hSw
        (try dsimp only at hSw)
        go_simp
        try with_reducible rfl
      try simp only [Act.put, List.setIfInBounds_toArray, List.set_cons_zero, List.set_cons_succ]
      refine wpAnyH_done (by kernel_rfl) ?_ _
      clear hHeld
      go_wp2
      have FF := BlkAt.fill (B := w.heap.size) [.bool true, .string B, .int .i64 c, .string t] [] [.bool false, .string ⟨#[]⟩, .int .i64 0, .string ⟨#[]⟩] [] 0 hA2 rfl rfl
      refine bodyPost_ret (v := .tuple #[.agg #[.bool true, .string B, .int .i64 c, .string t], .bool true]) (by exact results_blk2 Tryd.results13 _ _ w.heap.size _ _ _ rfl rfl FF Tryd.underlying43 rfl (by kernel_rfl)) rfl ⟨HI.out, by exact below_fill (Nat.le_refl _) _ 0 hB2⟩
    · go_wp2_with fail
      refine wp_region_held_drew (S := (fun u => u.cell? ⟨g, 0, none⟩ = some (.string s) ∧ u.cell? ⟨g, 1, none⟩ = some (.string B))) (by kernel_rfl) ?_ (fun hHeld => ?_)
      · exact ⟨c0, c1⟩
      refine wpAnyH_take (i := 0) (oi := { dst := some 22, op := Op.move (Operand.tmp 4), type := 36, pos := "l6_log.go:68", after := #[], guard := none }) (v := ?_) rfl (by kernel_rfl) (by kernel_rfl) (by kernel_rfl) (fun _ _ _ h => h) (Or.inl ⟨by rfl, ?_⟩) (by assumption) ?_
      rotate_left
      · intro wq hSw
        (try dsimp only at hSw)
        go_simp
        try with_reducible rfl
      try simp only [Act.put, List.setIfInBounds_toArray, List.set_cons_zero, List.set_cons_succ]
      refine wpAnyH_take (i := 1) (oi := { dst := some 23, op := Op.indexAddr 36 (Operand.tmp 22) (Operand.const (Value.int IntKind.i64 0)), type := 0, pos := "l6_log.go:68", after := #[{ on := 0, ground := Ground.data }], guard := none }) (v := ?_) rfl (by kernel_rfl) (by kernel_rfl) (by kernel_rfl) (fun _ _ _ h => h) (Or.inl ⟨by rfl, ?_⟩) (by assumption) ?_
      rotate_left
      · intro wq hSw
        (try dsimp only at hSw)
        go_simp
        try with_reducible rfl
      try simp only [Act.put, List.setIfInBounds_toArray, List.set_cons_zero, List.set_cons_succ]
      refine wpAnyH_take (i := 2) (oi := { dst := some 24, op := Op.load 9 (Operand.tmp 23), type := 9, pos := "l6_log.go:68", after := #[{ on := 1, ground := Ground.data }], guard := none }) (v := ?_) rfl (by kernel_rfl) (by kernel_rfl) (by kernel_rfl) (fun _ _ _ h => h) (Or.inl ⟨by rfl, ?_⟩) (by assumption) ?_
      rotate_left
      · intro wq hSw
        (try dsimp only at hSw)
        go_simp
        try with_reducible rfl
      try simp only [Act.put, List.setIfInBounds_toArray, List.set_cons_zero, List.set_cons_succ]
      refine wpAnyH_take (i := 3) (oi := { dst := some 25, op := Op.binOp BinOp.eql 9 (Operand.tmp 24) (Operand.const (Value.string { data := #[104, 97, 115] })) 9, type := 4, pos := "l6_log.go:68", after := #[{ on := 2, ground := Ground.data }], guard := none }) (v := ?_) rfl (by kernel_rfl) (by kernel_rfl) (by kernel_rfl) (fun _ _ _ h => h) (Or.inl ⟨by rfl, ?_⟩) (by assumption) ?_
      rotate_left
      · intro wq hSw
        (try dsimp only at hSw)
        go_simp
        try with_reducible rfl
      try simp only [Act.put, List.setIfInBounds_toArray, List.set_cons_zero, List.set_cons_succ]
      refine wpAnyH_take (i := 4) (oi := { dst := some 26, op := Op.move (Operand.tmp 4), type := 36, pos := "l6_log.go:68", after := #[], guard := none }) (v := ?_) rfl (by kernel_rfl) (by kernel_rfl) (by kernel_rfl) (fun _ _ _ h => h) (Or.inl ⟨by rfl, ?_⟩) (by assumption) ?_
      rotate_left
      · intro wq hSw
        (try dsimp only at hSw)
        go_simp
        try with_reducible rfl
      try simp only [Act.put, List.setIfInBounds_toArray, List.set_cons_zero, List.set_cons_succ]
      refine wpAnyH_take (i := 5) (oi := { dst := some 27, op := Op.indexAddr 36 (Operand.tmp 26) (Operand.const (Value.int IntKind.i64 1)), type := 0, pos := "l6_log.go:68", after := #[{ on := 4, ground := Ground.data }], guard := none }) (v := ?_) rfl (by kernel_rfl) (by kernel_rfl) (by kernel_rfl) (fun _ _ _ h => h) (Or.inl ⟨by rfl, ?_⟩) (by assumption) ?_
      rotate_left
      · intro wq hSw
        (try dsimp only at hSw)
        go_simp
        try with_reducible rfl
      try simp only [Act.put, List.setIfInBounds_toArray, List.set_cons_zero, List.set_cons_succ]
      refine wpAnyH_take (i := 6) (oi := { dst := some 28, op := Op.load 9 (Operand.tmp 27), type := 9, pos := "l6_log.go:68", after := #[{ on := 5, ground := Ground.data }], guard := none }) (v := ?_) rfl (by kernel_rfl) (by kernel_rfl) (by kernel_rfl) (fun _ _ _ h => h) (Or.inl ⟨by rfl, ?_⟩) (by assumption) ?_
      rotate_left
      · intro wq hSw
        (try dsimp only at hSw)
        go_simp
        try with_reducible rfl
      try simp only [Act.put, List.setIfInBounds_toArray, List.set_cons_zero, List.set_cons_succ]
      refine wpAnyH_take (i := 7) (oi := { dst := some 29, op := Op.move (Operand.tmp 5), type := 9, pos := "l6_log.go:68", after := #[], guard := none }) (v := ?_) rfl (by kernel_rfl) (by kernel_rfl) (by kernel_rfl) (fun _ _ _ h => h) (Or.inl ⟨by rfl, ?_⟩) (by assumption) ?_
      rotate_left
      · intro wq hSw
        (try dsimp only at hSw)
        go_simp
        try with_reducible rfl
      try simp only [Act.put, List.setIfInBounds_toArray, List.set_cons_zero, List.set_cons_succ]
      refine wpAnyH_ready (rs := [8]) (by kernel_rfl) (by simp) ?_
      refine AllReadyH.cons (o := { dst := some 30, op := Op.call { callee := Callee.value (Operand.func 14), args := #[Operand.tmp 29], argTypes := #[9] }, type := 28, pos := "l6_log.go:68", after := #[{ on := 7, ground := Ground.data }], guard := none }) rfl (fun K hK => ?_) AllReadyH.nil
      go_simp
      refine (h50 _ hlen).mono ?_
      rintro e w2 ⟨⟨c, t, rfl, hrr, hts⟩, hb2⟩
      have hbc : Below w1.heap.size w1 w2 := ((Below.refl _ _).drew).trans hb2
      have hA2 := bA.below hbc hz1
      have hO2 := oA.below hbc hz1
      have hB2 : Below w.heap.size w w2 := hB1.trans (hbc.mono hB1.size)
      have HI := HYes (by first | rfl | trivial) c t hrr hts
      have e0 := (hbc.cell (p := ⟨g, 0, none⟩) hg1).trans c0
      have e1 := (hbc.cell (p := ⟨g, 1, none⟩) hg1).trans c1
      clear HYes hrr hb2 hbc
      go_wp2_with fail
      clear hHeld
      refine hK.out _ _ ?_ (fun hHeld => ?_)
      · exact ⟨e0, e1⟩
      clear hK K
      try simp only [Act.put, List.setIfInBounds_toArray, List.set_cons_zero, List.set_cons_succ]
      refine wpAnyH_take (i := 9) (oi := { dst := some 31, op := Op.build 43 #[(0, Operand.tmp 25), (1, Operand.tmp 28), (2, Operand.tmp 30)], type := 43, pos := "l6_log.go:68", after := #[{ on := 3, ground := Ground.data }, { on := 6, ground := Ground.data }, { on := 8, ground := Ground.data }], guard := none }) (v := ?_) rfl (by kernel_rfl) (by kernel_rfl) (by kernel_rfl) (fun _ _ _ h => h) (Or.inl ⟨by rfl, ?_⟩) (by assumption) ?_
      rotate_left
      · intro wq hSw
        (try dsimp only at hSw)
        go_simp
        try with_reducible rfl
      try simp only [Act.put, List.setIfInBounds_toArray, List.set_cons_zero, List.set_cons_succ]
      refine wpAnyH_ready (rs := [10]) (by kernel_rfl) (by simp) ?_
      refine AllReadyH.cons (o := { dst := none, op := Op.store 43 (Operand.tmp 2) (Operand.tmp 31), type := 0, pos := "l6_log.go:68", after := #[{ on := 9, ground := Ground.data }, { on := 8, ground := Ground.chain }, { on := 0, ground := Ground.phase }, { on := 1, ground := Ground.phase }, { on := 2, ground := Ground.phase }, { on := 3, ground := Ground.phase }, { on := 4, ground := Ground.phase }, { on := 5, ground := Ground.phase }, { on := 6, ground := Ground.phase }, { on := 7, ground := Ground.phase }, { on := 8, ground := Ground.phase }, { on := 9, ground := Ground.phase }], guard := none }) rfl (fun K hK => ?_) AllReadyH.nil
      refine step_store_blk rfl 43 (.tmp 2) (.tmp 31) rfl w.heap.size 0 rfl [.bool true, .string B, .int .i64 c, .string t] rfl (blk_some hA2 _ rfl) hO2 (by simp [Value.oneCell']) (by kernel_rfl) rfl ?_
      clear hHeld
      refine hK.out _ _ ?_ (fun hHeld => ?_)
      · exact ⟨(cell_fill _ 0 ⟨g, 0, none⟩ (by show g ≠ w.heap.size; omega)).trans e0, (cell_fill _ 0 ⟨g, 1, none⟩ (by show g ≠ w.heap.size; omega)).trans e1⟩
      clear hK K
      try simp only [Act.put, List.setIfInBounds_toArray, List.set_cons_zero, List.set_cons_succ]
      refine wpAnyH_take (i := 11) (oi := { dst := some 3, op := Op.assign (Operand.const (Value.bool true)), type := 4, pos := "l6_log.go:68", after := #[{ on := 10, ground := Ground.chain }, { on := 0, ground := Ground.phase }, { on := 1, ground := Ground.phase }, { on := 2, ground := Ground.phase }, { on := 3, ground := Ground.phase }, { on := 4, ground := Ground.phase }, { on := 5, ground := Ground.phase }, { on := 6, ground := Ground.phase }, { on := 7, ground := Ground.phase }, { on := 8, ground := Ground.phase }, { on := 9, ground := Ground.phase }, { on := 10, ground := Ground.phase }], guard := none }) (v := ?_) rfl (by kernel_rfl) (by kernel_rfl) (by kernel_rfl) (fun _ _ _ h => h) (Or.inl ⟨by rfl, ?_⟩) (by assumption) ?_
      rotate_left
      · intro wq hSw
        (try dsimp only at hSw)
        go_simp
        try with_reducible rfl
      try simp only [Act.put, List.setIfInBounds_toArray, List.set_cons_zero, List.set_cons_succ]
      refine wpAnyH_done (by kernel_rfl) ?_ _
      clear hHeld
      go_wp2
      have FF := BlkAt.fill (B := w.heap.size) [.bool true, .string B, .int .i64 c, .string t] [] [.bool false, .string ⟨#[]⟩, .int .i64 0, .string ⟨#[]⟩] [] 0 hA2 rfl rfl
      refine bodyPost_ret (v := .tuple #[.agg #[.bool true, .string B, .int .i64 c, .string t], .bool true]) (by exact results_blk2 Tryd.results13 _ _ w.heap.size _ _ _ rfl rfl FF Tryd.underlying43 rfl (by kernel_rfl)) rfl ⟨HI.out, by exact below_fill (Nat.le_refl _) _ 0 hB2⟩
end Go.Proofs.YtejlfpolnddfdaaDoor
