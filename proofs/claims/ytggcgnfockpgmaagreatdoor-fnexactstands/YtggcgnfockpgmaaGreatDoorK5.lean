import Derived.Test.YtggcgnfockpgmaaGreatDoorK4
import Derived.Test.YtggcgnfockpgmaaGreatDoorK1
import Derived.Test.YtggcgnfockpgmaaGreatDoorQV
namespace Go.Proofs.YtggcgnfockpgmaaGreatDoor
open Go.RowKit
open T (F2 f2z treeOk Asc FilesAt)

def Is7 (w : World) (fs : List F2) (e : Ending) (w' : World) : Prop := ∃ (ms : List M3) (v : Value), e = .returned v ∧ w'.ownsRow w.heap.size 48 3 v ms.length (mkCells ms) ∧ IsPT fs ms
set_option maxHeartbeats 2000000 in
theorem c22 (a : Option Addr) (cap : Nat) (fs : List F2) (w : World) (hl : fs.length ≤ 1048576) (hs : ∀ i, (fs.getD i f2z).le 1048576) (hat : FilesAt w a fs) (hv : VarsZ w) :
    Calls Tryz.prog 22 #[.agg #[.slice a fs.length cap]] w fun e w' => Is7 w fs e w' ∧ Below w.heap.size w w' := by
  have HV : Hid (VarsZ w) := hv
  have HAT : Hid (FilesAt w a fs) := hat
  have hB0 : Below w.heap.size w (w.alloc (.cells #[.slice a fs.length cap] 31)) := (Below.refl _ _).alloc (Nat.le_refl _) _
  have h18 := T.c21 a cap fs _ hl hs (T.files_below hat hB0)
  clear hv hat
  go_enter Tryz.func22, Tryz.ntmps22
  go_wp2_with fail
  refine h18.mono ?_
  rintro e w1 ⟨⟨b, rfl, hb⟩, hb1⟩
  have hx1 : Below (w.heap.size + 1) (w.alloc (.cells #[.slice a fs.length cap] 31)) w1 := by have h := hb1; simp at h; exact h
  have hB1 : Below w.heap.size w w1 := hB0.trans (hx1.mono (by omega))
  have hz1 : w.heap.size + 1 ≤ w1.heap.size := by have := hx1.size; simpa using this
  have t1 : w1.cell? ⟨w.heap.size, 0, none⟩ = some (.slice a fs.length cap) := (hx1.cell (p := ⟨w.heap.size, 0, none⟩) (by simp)).trans (by simp [go_sem])
  clear hb1 h18
  cases b
  · have HR : Hid (IsPT fs []) := .inl ⟨(fun h => by have := hb.2 h; cases this), rfl⟩
    clear hb
    go_wp2
    go_ret
    exact ⟨⟨[], _, rfl, World.ownsRow_nil _ _ _ _, HR.out⟩, hB1⟩
  · have HOK : Hid (treeOk fs) := hb.1 rfl
    clear hb
    have h19 := c40 a cap fs w1 HOK.out (T.files_below HAT.out hB1) (HV.out.below hB1)
    go_wp2_with fail
    refine h19.mono ?_
    rintro e w2 ⟨⟨ms, v, er, rfl, hown, hor⟩, hb2⟩
    have hB2 : Below w.heap.size w w2 := hB1.trans (hb2.mono hB1.size)
    have hown2 : w2.ownsRow w.heap.size 48 3 v ms.length (mkCells ms) := owns_mono hown (by omega)
    obtain ⟨ao, co, hvv⟩ := row_form3 hown2
    subst hvv
    clear h19 hown
    rcases hor with ⟨rfl, hp⟩ | ⟨⟨n, ty, va, rfl⟩, hp⟩
    · have HP : Hid (IsPT fs ms) := hp
      clear hp
      go_wp2_with fail
      refine (c41_nil _).mono ?_
      rintro e w3 ⟨rfl, hb3⟩
      have hown3 := ownsRow_below hown2 hb3
      have hB3 := hB2.trans (hb3.mono hB2.size)
      go_wp2
      go_ret
      exact ⟨⟨ms, _, rfl, hown3, HP.out⟩, hB3⟩
    · have HP : Hid (IsPT fs []) := hp
      clear hp
      go_wp2_with fail
      refine (c41_hit n ty va _ (HV.out.below hB2).vr.va.g6).mono ?_
      rintro e w3 ⟨rfl, hb3⟩
      have hB3 := hB2.trans (hb3.mono hB2.size)
      go_wp2
      go_ret
      exact ⟨⟨[], _, rfl, World.ownsRow_nil _ _ _ _, HP.out⟩, hB3⟩

def Is5 (fs : List F2) (e : Ending) (w' : World) : Prop := ∃ (ms : List M3) (a : Option Addr) (cap : Nat), e = .returned (.slice a ms.length cap) ∧ MksAt w' a ms ∧ IsPT fs ms
set_option maxHeartbeats 4000000 in
set_option maxRecDepth 100000 in
theorem c33 (a : Option Addr) (cap : Nat) (fs : List F2) (w : World) (hl : fs.length ≤ 1048576) (hs : ∀ i, (fs.getD i f2z).le 1048576) (hat : FilesAt w a fs) :
    Calls Tryz.prog 33 #[.agg #[.slice a fs.length cap]] w fun e w' => Is5 fs e w' ∧ Below w.heap.size w w' := by
  have HAT : Hid (FilesAt w a fs) := hat
  have hB0 : Below w.heap.size w (w.alloc (.cells #[.slice a fs.length cap] 31)) := (Below.refl _ _).alloc (Nat.le_refl _) _
  have h14 := T.c34 a cap fs planA _ hl (T.files_below hat hB0)
  clear hat
  unfold planA at h14
  go_enter Tryz.func33, Tryz.ntmps33
  go_wp2_with fail
  refine h14.mono ?_
  rintro e w1 ⟨⟨r, rfl, hr⟩, hb1⟩
  have hx1 : Below (w.heap.size + 1) (w.alloc (.cells #[.slice a fs.length cap] 31)) w1 := by have h := hb1; simp at h; exact h
  have hB1 : Below w.heap.size w w1 := hB0.trans (hx1.mono (by omega))
  have hz1 : w.heap.size + 1 ≤ w1.heap.size := by have := hx1.size; simpa using this
  have t1 : w1.cell? ⟨w.heap.size, 0, none⟩ = some (.slice a fs.length cap) := (hx1.cell (p := ⟨w.heap.size, 0, none⟩) (by simp)).trans (by simp [go_sem])
  have h15 := T.c14 a cap fs w1 hl hs (T.files_below HAT.out hB1)
  clear hb1 h14
  go_wp2_with fail
  refine h15.mono ?_
  rintro e w2 ⟨⟨b, rfl, hb⟩, hb2⟩
  have hB2 : Below w.heap.size w w2 := hB1.trans (hb2.mono hB1.size)
  have hz2 : w1.heap.size ≤ w2.heap.size := hb2.size
  have t2 : w2.cell? ⟨w.heap.size, 0, none⟩ = some (.slice a fs.length cap) := (hb2.cell (p := ⟨w.heap.size, 0, none⟩) (by show w.heap.size < w1.heap.size; omega)).trans t1
  clear h15 hb2 t1
  cases b
  · have HR : Hid (IsPT fs []) := .inl ⟨(fun h => by have := hb.2 h; cases this), rfl⟩
    clear hb hr
    go_wp2
    go_ret
    exact ⟨⟨[], _, _, rfl, .inl rfl, HR.out⟩, hB2.alloc hB2.size _⟩
  · have HOK : Hid (treeOk fs) := hb.1 rfl
    clear hb
    rcases hr with ⟨rfl, hno⟩ | ⟨i, rfl, hi, hnm⟩
    · have HR : Hid (IsPT fs []) := .inr (.inl ⟨HOK.out, hno, rfl⟩)
      clear hno
      go_wp2
      go_ret
      exact ⟨⟨[], _, _, rfl, .inl rfl, HR.out⟩, hB2.alloc hB2.size _⟩
    · have hxt := tree_text HOK.out hi
      have HNO : Hid (∀ ks ok, IsPlan (fs.getD i f2z).tx.data.toList ks ok → ¬ (ok = true ∧ FreeAll fs ks) → IsPT fs []) := fun ks ok hp hn => .inr (.inr ⟨HOK.out, i, hi, hnm, ks, ok, hp, .inr ⟨hn, rfl⟩⟩)
      have HYES : Hid (∀ ks, IsPlan (fs.getD i f2z).tx.data.toList ks true → FreeAll fs ks → IsPT fs ks) := fun ks hp hn => .inr (.inr ⟨HOK.out, i, hi, hnm, ks, true, hp, .inl ⟨rfl, hn, rfl⟩⟩)
      obtain ⟨bf, off, hc⟩ := T.files_some (T.files_below HAT.out hB2)
      rcases hc with hss | ⟨ha, hbw, hcell⟩
      · rw [hss] at hi; exact absurd hi (Nat.not_lt_zero _)
      subst ha
      have g1 := (hcell i hi).2
      have HX : Hid (∃ x, x = fs.getD i f2z) := ⟨_, rfl⟩
      obtain ⟨x, hx⟩ := HX.out
      rw [← hx] at g1 HNO HYES hxt
      clear hcell HX hx hnm
      go_wp2_with fail
      refine (c50 x.tx _ (by omega)).mono ?_
      rintro e w3 ⟨⟨ms, ok, am, cm, rfl, hatm, hp⟩, hb3⟩
      have hB3 : Below w.heap.size w w3 := hB2.trans (hb3.mono hB2.size)
      have hz3 : w2.heap.size ≤ w3.heap.size := hb3.size
      have t3 := (hb3.cell (p := ⟨w.heap.size, 0, none⟩) (by show w.heap.size < w2.heap.size; omega)).trans t2
      have HP : Hid (IsPlan x.tx.data.toList ms ok) := hp
      obtain ⟨hml, hms⟩ := isPlan_len hp
      have HATM : Hid (MksAt w3 am ms) := hatm
      clear hp hb3 t2 hatm
      go_wp2_with fail
      go_loopw [5, 6] (fun o i wr => ∃ (k : Nat) (b : Bool), k ≤ ms.length ∧ i = .int .i64 k ∧ o = .bool b ∧ Hid (b = true ↔ ok = true ∧ ∀ j, j < k → Free fs (ms.getD j m3z).nm) ∧ Below w3.heap.size w3 wr) (fun _ i _ => ms.length - (intOf i).toNat)
      case atStart => exact ⟨0, ok, Nat.zero_le _, rfl, rfl, ⟨fun h => ⟨h, fun j h => absurd h (Nat.not_lt_zero _)⟩, fun h => h.1⟩, Below.refl _ _⟩
      case round =>
        obtain ⟨k, b, hk, rfl, rfl, hfr, hbr⟩ := hrel
        have hBr : Below w.heap.size w wr := hB3.trans (hbr.mono hB3.size)
        have hzr : w3.heap.size ≤ wr.heap.size := hbr.size
        have tr := (hbr.cell (p := ⟨w.heap.size, 0, none⟩) (by show w.heap.size < w3.heap.size; omega)).trans t3
        by_cases hlt : k < ms.length
        · cases b
          · have hfr' : Hid (false = true ↔ ok = true ∧ ∀ j, j < k + 1 → Free fs (ms.getD j m3z).nm) := ⟨(fun h => by cases h), fun h => hfr.out.2 ⟨h.1, fun j hj => h.2 j (by omega)⟩⟩
            go_wp2_with fail
            refine wp_region_held_drew (S := (fun _ => True)) (by kernel_rfl) ?_ (fun hHeld => ?_)
            · ((try dsimp only); (first | done | trivial))
            refine wpAnyH_take (i := 0) (oi := { dst := some 33, op := Op.move (Operand.tmp 5), type := 4, pos := "l3_trees.go:123", after := #[], guard := none }) (v := ?_) rfl (by kernel_rfl) (by kernel_rfl) (by kernel_rfl) (fun _ _ _ h => h) (Or.inl ⟨by rfl, ?_⟩) (by assumption) ?_
            rotate_left
            · intro wq hSw
              (try dsimp only at hSw)
              go_simp
              try with_reducible rfl
            try simp only [Act.put, List.setIfInBounds_toArray, List.set_cons_zero, List.set_cons_succ]
            refine wpAnyH_take (i := 1) (oi := { dst := some 34, op := Op.move (Operand.tmp 33), type := 4, pos := "l3_trees.go:123", after := #[{ on := 0, ground := Ground.data }], guard := none }) (v := ?_) rfl (by kernel_rfl) (by kernel_rfl) (by kernel_rfl) (fun _ _ _ h => h) (Or.inl ⟨by rfl, ?_⟩) (by assumption) ?_
            rotate_left
            · intro wq hSw
              (try dsimp only at hSw)
              go_simp
              try with_reducible rfl
            try simp only [Act.put, List.setIfInBounds_toArray, List.set_cons_zero, List.set_cons_succ]
            refine wpAnyH_take (i := 2) (oi := { dst := some 35, op := Op.load 31 (Operand.tmp 1), type := 31, pos := "l3_trees.go:123", after := #[{ on := 1, ground := Ground.guard }], guard := some (1, true) }) (v := undef) rfl (by kernel_rfl) (by kernel_rfl) (by kernel_rfl) (fun _ _ _ h => h) (Or.inr ⟨by rfl, rfl⟩) (by assumption) ?_
            try simp only [Act.put, List.setIfInBounds_toArray, List.set_cons_zero, List.set_cons_succ]
            refine wpAnyH_take (i := 3) (oi := { dst := some 36, op := Op.move (Operand.tmp 4), type := 63, pos := "l3_trees.go:123", after := #[{ on := 1, ground := Ground.guard }], guard := some (1, true) }) (v := undef) rfl (by kernel_rfl) (by kernel_rfl) (by kernel_rfl) (fun _ _ _ h => h) (Or.inr ⟨by rfl, rfl⟩) (by assumption) ?_
            try simp only [Act.put, List.setIfInBounds_toArray, List.set_cons_zero, List.set_cons_succ]
            refine wpAnyH_take (i := 4) (oi := { dst := some 37, op := Op.move (Operand.tmp 6), type := 3, pos := "l3_trees.go:123", after := #[{ on := 1, ground := Ground.guard }], guard := some (1, true) }) (v := undef) rfl (by kernel_rfl) (by kernel_rfl) (by kernel_rfl) (fun _ _ _ h => h) (Or.inr ⟨by rfl, rfl⟩) (by assumption) ?_
            try simp only [Act.put, List.setIfInBounds_toArray, List.set_cons_zero, List.set_cons_succ]
            refine wpAnyH_take (i := 5) (oi := { dst := some 38, op := Op.indexAddr 63 (Operand.tmp 36) (Operand.tmp 37), type := 0, pos := "l3_trees.go:123", after := #[{ on := 3, ground := Ground.data }, { on := 4, ground := Ground.data }, { on := 1, ground := Ground.guard }], guard := some (1, true) }) (v := undef) rfl (by kernel_rfl) (by kernel_rfl) (by kernel_rfl) (fun _ _ _ h => h) (Or.inr ⟨by rfl, rfl⟩) (by assumption) ?_
            try simp only [Act.put, List.setIfInBounds_toArray, List.set_cons_zero, List.set_cons_succ]
            refine wpAnyH_take (i := 6) (oi := { dst := some 39, op := Op.fieldAddr 48 (Operand.tmp 38) 0, type := 0, pos := "l3_trees.go:123", after := #[{ on := 5, ground := Ground.data }, { on := 1, ground := Ground.guard }], guard := some (1, true) }) (v := undef) rfl (by kernel_rfl) (by kernel_rfl) (by kernel_rfl) (fun _ _ _ h => h) (Or.inr ⟨by rfl, rfl⟩) (by assumption) ?_
            try simp only [Act.put, List.setIfInBounds_toArray, List.set_cons_zero, List.set_cons_succ]
            refine wpAnyH_take (i := 7) (oi := { dst := some 40, op := Op.load 9 (Operand.tmp 39), type := 9, pos := "l3_trees.go:123", after := #[{ on := 6, ground := Ground.data }, { on := 1, ground := Ground.guard }], guard := some (1, true) }) (v := undef) rfl (by kernel_rfl) (by kernel_rfl) (by kernel_rfl) (fun _ _ _ h => h) (Or.inr ⟨by rfl, rfl⟩) (by assumption) ?_
            try simp only [Act.put, List.setIfInBounds_toArray, List.set_cons_zero, List.set_cons_succ]
            refine wpAnyH_take (i := 8) (oi := { dst := some 41, op := Op.call { callee := Callee.value (Operand.func 34), args := #[Operand.tmp 35, Operand.tmp 40], argTypes := #[31, 9] }, type := 3, pos := "l3_trees.go:123", after := #[{ on := 2, ground := Ground.data }, { on := 7, ground := Ground.data }, { on := 1, ground := Ground.chain }, { on := 1, ground := Ground.guard }], guard := some (1, true) }) (v := undef) rfl (by kernel_rfl) (by kernel_rfl) (by kernel_rfl) (fun _ _ _ h => h) (Or.inr ⟨by rfl, rfl⟩) (by assumption) ?_
            try simp only [Act.put, List.setIfInBounds_toArray, List.set_cons_zero, List.set_cons_succ]
            refine wpAnyH_take (i := 9) (oi := { dst := some 42, op := Op.binOp BinOp.lss 3 (Operand.tmp 41) (Operand.const (Value.int IntKind.i64 0)) 3, type := 4, pos := "l3_trees.go:123", after := #[{ on := 8, ground := Ground.data }, { on := 1, ground := Ground.guard }], guard := some (1, true) }) (v := undef) rfl (by kernel_rfl) (by kernel_rfl) (by kernel_rfl) (fun _ _ _ h => h) (Or.inr ⟨by rfl, rfl⟩) (by assumption) ?_
            try simp only [Act.put, List.setIfInBounds_toArray, List.set_cons_zero, List.set_cons_succ]
            refine wpAnyH_take (i := 10) (oi := { dst := some 43, op := Op.pick (Operand.tmp 34) (Operand.tmp 42) (Operand.const (Value.bool false)), type := 4, pos := "l3_trees.go:123", after := #[{ on := 1, ground := Ground.data }, { on := 9, ground := Ground.data }], guard := none }) (v := ?_) rfl (by kernel_rfl) (by kernel_rfl) (by kernel_rfl) (fun _ _ _ h => h) (Or.inl ⟨by rfl, ?_⟩) (by assumption) ?_
            rotate_left
            · intro wq hSw
              (try dsimp only at hSw)
              go_simp
              try with_reducible rfl
            try simp only [Act.put, List.setIfInBounds_toArray, List.set_cons_zero, List.set_cons_succ]
            refine wpAnyH_take (i := 11) (oi := { dst := some 5, op := Op.assign (Operand.tmp 43), type := 4, pos := "l3_trees.go:123", after := #[{ on := 10, ground := Ground.data }, { on := 8, ground := Ground.chain }, { on := 0, ground := Ground.phase }, { on := 1, ground := Ground.phase }, { on := 2, ground := Ground.phase }, { on := 3, ground := Ground.phase }, { on := 4, ground := Ground.phase }, { on := 5, ground := Ground.phase }, { on := 6, ground := Ground.phase }, { on := 7, ground := Ground.phase }, { on := 8, ground := Ground.phase }, { on := 9, ground := Ground.phase }, { on := 10, ground := Ground.phase }], guard := none }) (v := ?_) rfl (by kernel_rfl) (by kernel_rfl) (by kernel_rfl) (fun _ _ _ h => h) (Or.inl ⟨by rfl, ?_⟩) (by assumption) ?_
            rotate_left
            · intro wq hSw
              (try dsimp only at hSw)
              go_simp
              try with_reducible rfl
            try simp only [Act.put, List.setIfInBounds_toArray, List.set_cons_zero, List.set_cons_succ]
            refine wpAnyH_done (by kernel_rfl) ?_ _
            clear hHeld
            go_wp2
            go_roundw
            case rel => exact ⟨k + 1, false, by omega, by go_num, rfl, hfr', hbr.drew⟩
            case measure => simp [intOf]; omega
          · obtain ⟨bm, om, hc⟩ := mks_some (mks_below HATM.out hbr)
            rcases hc with hss | ⟨hao, hbmw, hcell⟩
            · rw [hss] at hlt; exact absurd hlt (Nat.not_lt_zero _)
            subst hao
            have g0 := (hcell k hlt).1
            have HX : Hid (∃ y, y = ms.getD k m3z) := ⟨_, rfl⟩
            obtain ⟨y, hy⟩ := HX.out
            rw [← hy] at g0
            have HY : Hid (y = ms.getD k m3z) := hy
            clear hy HX hcell
            have hwz : w.heap.size < wr.heap.size := by omega
            have h14 := fun u (hu : Below w.heap.size w u) => T.c34 (some ⟨bf, off, none⟩) cap fs y.nm u hl (T.files_below HAT.out hu)
            go_wp2_with fail
            refine wp_region_held_drew (S := (fun u => u.cell? ⟨w.heap.size, 0, none⟩ = some (.slice (some ⟨bf, off, none⟩) fs.length cap) ∧ u.cell? ⟨bm, om + k * 3, none⟩ = some (.string y.nm))) (by kernel_rfl) ?_ (fun hHeld => ?_)
            · ((try dsimp only); go_keep)
            refine wpAnyH_take (i := 0) (oi := { dst := some 33, op := Op.move (Operand.tmp 5), type := 4, pos := "l3_trees.go:123", after := #[], guard := none }) (v := ?_) rfl (by kernel_rfl) (by kernel_rfl) (by kernel_rfl) (fun _ _ _ h => h) (Or.inl ⟨by rfl, ?_⟩) (by assumption) ?_
            rotate_left
            · intro wq hSw
              (try dsimp only at hSw)
              go_simp
              try with_reducible rfl
            try simp only [Act.put, List.setIfInBounds_toArray, List.set_cons_zero, List.set_cons_succ]
            refine wpAnyH_take (i := 1) (oi := { dst := some 34, op := Op.move (Operand.tmp 33), type := 4, pos := "l3_trees.go:123", after := #[{ on := 0, ground := Ground.data }], guard := none }) (v := ?_) rfl (by kernel_rfl) (by kernel_rfl) (by kernel_rfl) (fun _ _ _ h => h) (Or.inl ⟨by rfl, ?_⟩) (by assumption) ?_
            rotate_left
            · intro wq hSw
              (try dsimp only at hSw)
              go_simp
              try with_reducible rfl
            try simp only [Act.put, List.setIfInBounds_toArray, List.set_cons_zero, List.set_cons_succ]
            refine wpAnyH_take (i := 2) (oi := { dst := some 35, op := Op.load 31 (Operand.tmp 1), type := 31, pos := "l3_trees.go:123", after := #[{ on := 1, ground := Ground.guard }], guard := some (1, true) }) (v := ?_) rfl (by kernel_rfl) (by kernel_rfl) (by kernel_rfl) (fun _ _ _ h => h) (Or.inl ⟨by rfl, ?_⟩) (by assumption) ?_
            rotate_left
            · intro wq hSw
              (try dsimp only at hSw)
              go_simp
              try with_reducible rfl
            try simp only [Act.put, List.setIfInBounds_toArray, List.set_cons_zero, List.set_cons_succ]
            refine wpAnyH_take (i := 3) (oi := { dst := some 36, op := Op.move (Operand.tmp 4), type := 63, pos := "l3_trees.go:123", after := #[{ on := 1, ground := Ground.guard }], guard := some (1, true) }) (v := ?_) rfl (by kernel_rfl) (by kernel_rfl) (by kernel_rfl) (fun _ _ _ h => h) (Or.inl ⟨by rfl, ?_⟩) (by assumption) ?_
            rotate_left
            · intro wq hSw
              (try dsimp only at hSw)
              go_simp
              try with_reducible rfl
            try simp only [Act.put, List.setIfInBounds_toArray, List.set_cons_zero, List.set_cons_succ]
            refine wpAnyH_take (i := 4) (oi := { dst := some 37, op := Op.move (Operand.tmp 6), type := 3, pos := "l3_trees.go:123", after := #[{ on := 1, ground := Ground.guard }], guard := some (1, true) }) (v := ?_) rfl (by kernel_rfl) (by kernel_rfl) (by kernel_rfl) (fun _ _ _ h => h) (Or.inl ⟨by rfl, ?_⟩) (by assumption) ?_
            rotate_left
            · intro wq hSw
              (try dsimp only at hSw)
              go_simp
              try with_reducible rfl
            try simp only [Act.put, List.setIfInBounds_toArray, List.set_cons_zero, List.set_cons_succ]
            refine wpAnyH_take (i := 5) (oi := { dst := some 38, op := Op.indexAddr 63 (Operand.tmp 36) (Operand.tmp 37), type := 0, pos := "l3_trees.go:123", after := #[{ on := 3, ground := Ground.data }, { on := 4, ground := Ground.data }, { on := 1, ground := Ground.guard }], guard := some (1, true) }) (v := ?_) rfl (by kernel_rfl) (by kernel_rfl) (by kernel_rfl) (fun _ _ _ h => h) (Or.inl ⟨by rfl, ?_⟩) (by assumption) ?_
            rotate_left
            · intro wq hSw
              (try dsimp only at hSw)
              go_simp
              try with_reducible rfl
            try simp only [Act.put, List.setIfInBounds_toArray, List.set_cons_zero, List.set_cons_succ]
            refine wpAnyH_take (i := 6) (oi := { dst := some 39, op := Op.fieldAddr 48 (Operand.tmp 38) 0, type := 0, pos := "l3_trees.go:123", after := #[{ on := 5, ground := Ground.data }, { on := 1, ground := Ground.guard }], guard := some (1, true) }) (v := ?_) rfl (by kernel_rfl) (by kernel_rfl) (by kernel_rfl) (fun _ _ _ h => h) (Or.inl ⟨by rfl, ?_⟩) (by assumption) ?_
            rotate_left
            · intro wq hSw
              (try dsimp only at hSw)
              go_simp
              try with_reducible rfl
            try simp only [Act.put, List.setIfInBounds_toArray, List.set_cons_zero, List.set_cons_succ]
            refine wpAnyH_take (i := 7) (oi := { dst := some 40, op := Op.load 9 (Operand.tmp 39), type := 9, pos := "l3_trees.go:123", after := #[{ on := 6, ground := Ground.data }, { on := 1, ground := Ground.guard }], guard := some (1, true) }) (v := ?_) rfl (by kernel_rfl) (by kernel_rfl) (by kernel_rfl) (fun _ _ _ h => h) (Or.inl ⟨by rfl, ?_⟩) (by assumption) ?_
            rotate_left
            · intro wq hSw
              (try dsimp only at hSw)
              go_simp
              try with_reducible rfl
            try simp only [Act.put, List.setIfInBounds_toArray, List.set_cons_zero, List.set_cons_succ]
            refine wpAnyH_ready (rs := [8]) (by kernel_rfl) (by simp) ?_
            refine AllReadyH.cons (o := { dst := some 41, op := Op.call { callee := Callee.value (Operand.func 34), args := #[Operand.tmp 35, Operand.tmp 40], argTypes := #[31, 9] }, type := 3, pos := "l3_trees.go:123", after := #[{ on := 2, ground := Ground.data }, { on := 7, ground := Ground.data }, { on := 1, ground := Ground.chain }, { on := 1, ground := Ground.guard }], guard := some (1, true) }) rfl (fun K hK => ?_) AllReadyH.nil
            go_simp
            refine (h14 _ hBr.drew).mono ?_
            rintro e w4 ⟨⟨r4, rfl, hr4⟩, hb4⟩
            have HB4 : Hid (Below wr.heap.size wr w4) := (Below.refl _ _).drew.trans hb4
            have HR4 : Hid ((r4 = -1 ∧ ∀ i, i < fs.length → (fs.getD i f2z).nm ≠ y.nm) ∨ ∃ i : Nat, r4 = i ∧ i < fs.length ∧ (fs.getD i f2z).nm = y.nm) := hr4
            clear hr4
            have e1 := (HB4.out.cell (p := ⟨w.heap.size, 0, none⟩) (by exact hwz)).trans tr
            have e2 := (HB4.out.cell (p := ⟨bm, om + k * 3, none⟩) (by exact hbmw)).trans g0
            go_wp2_with fail
            clear hHeld
            refine hK.out _ _ ?_ (fun hHeld => ?_)
            · ((try dsimp only); go_keep)
            clear hK K
            try simp only [Act.put, List.setIfInBounds_toArray, List.set_cons_zero, List.set_cons_succ]
            refine wpAnyH_take (i := 9) (oi := { dst := some 42, op := Op.binOp BinOp.lss 3 (Operand.tmp 41) (Operand.const (Value.int IntKind.i64 0)) 3, type := 4, pos := "l3_trees.go:123", after := #[{ on := 8, ground := Ground.data }, { on := 1, ground := Ground.guard }], guard := some (1, true) }) (v := ?_) rfl (by kernel_rfl) (by kernel_rfl) (by kernel_rfl) (fun _ _ _ h => h) (Or.inl ⟨by rfl, ?_⟩) (by assumption) ?_
            rotate_left
            · intro wq hSw
              (try dsimp only at hSw)
              go_simp
              try with_reducible rfl
            try simp only [Act.put, List.setIfInBounds_toArray, List.set_cons_zero, List.set_cons_succ]
            refine wpAnyH_take (i := 10) (oi := { dst := some 43, op := Op.pick (Operand.tmp 34) (Operand.tmp 42) (Operand.const (Value.bool false)), type := 4, pos := "l3_trees.go:123", after := #[{ on := 1, ground := Ground.data }, { on := 9, ground := Ground.data }], guard := none }) (v := ?_) rfl (by kernel_rfl) (by kernel_rfl) (by kernel_rfl) (fun _ _ _ h => h) (Or.inl ⟨by rfl, ?_⟩) (by assumption) ?_
            rotate_left
            · intro wq hSw
              (try dsimp only at hSw)
              go_simp
              try with_reducible rfl
            try simp only [Act.put, List.setIfInBounds_toArray, List.set_cons_zero, List.set_cons_succ]
            refine wpAnyH_take (i := 11) (oi := { dst := some 5, op := Op.assign (Operand.tmp 43), type := 4, pos := "l3_trees.go:123", after := #[{ on := 10, ground := Ground.data }, { on := 8, ground := Ground.chain }, { on := 0, ground := Ground.phase }, { on := 1, ground := Ground.phase }, { on := 2, ground := Ground.phase }, { on := 3, ground := Ground.phase }, { on := 4, ground := Ground.phase }, { on := 5, ground := Ground.phase }, { on := 6, ground := Ground.phase }, { on := 7, ground := Ground.phase }, { on := 8, ground := Ground.phase }, { on := 9, ground := Ground.phase }, { on := 10, ground := Ground.phase }], guard := none }) (v := ?_) rfl (by kernel_rfl) (by kernel_rfl) (by kernel_rfl) (fun _ _ _ h => h) (Or.inl ⟨by rfl, ?_⟩) (by assumption) ?_
            rotate_left
            · intro wq hSw
              (try dsimp only at hSw)
              go_simp
              try with_reducible rfl
            try simp only [Act.put, List.setIfInBounds_toArray, List.set_cons_zero, List.set_cons_succ]
            refine wpAnyH_done (by kernel_rfl) ?_ _
            clear hHeld
            have hb3r : Below w3.heap.size w3 w4 := hbr.trans (HB4.out.mono hzr)
            have HF : Hid (decide (r4 < 0) = true ↔ ok = true ∧ ∀ j, j < k + 1 → Free fs (ms.getD j m3z).nm) := by
              constructor
              · intro h
                have h := of_decide_eq_true h
                refine ⟨(hfr.out.1 (by first | rfl | trivial)).1, fun j hj => ?_⟩
                rcases Nat.lt_or_ge j k with h1 | h1
                · exact (hfr.out.1 (by first | rfl | trivial)).2 j h1
                · obtain rfl : j = k := by omega
                  rw [← HY.out]
                  rcases HR4.out with ⟨_, h2⟩ | ⟨i4, h2, _⟩
                  · exact h2
                  · omega
              · intro h
                apply decide_eq_true
                rcases HR4.out with ⟨h2, _⟩ | ⟨i4, h2, h3, h4⟩
                · omega
                · exact absurd (by rw [← HY.out]; exact h4) (h.2 k (by omega) i4 h3)
            go_wp2
            go_roundw
            case rel => exact ⟨k + 1, decide (r4 < 0), by omega, by go_num, rfl, HF, hb3r⟩
            case measure => simp [intOf]; omega
        · obtain rfl : k = ms.length := by omega
          cases b
          · have HR : Hid (IsPT fs []) := HNO.out _ _ HP.out (fun h => by have := hfr.out.2 h; cases this)
            clear HNO HYES
            go_wp2
            go_ret
            exact ⟨⟨[], _, _, rfl, .inl rfl, HR.out⟩, hBr.alloc hBr.size _⟩
          · obtain ⟨h1, h2⟩ := hfr.out.1 rfl
            subst h1
            have HR : Hid (IsPT fs ms) := HYES.out _ HP.out h2
            have HATR : Hid (MksAt wr am ms) := mks_below HATM.out hbr
            clear HNO HYES h2
            go_wp2
            go_ret
            exact ⟨⟨ms, _, _, rfl, HATR.out, HR.out⟩, hBr⟩
end Go.Proofs.YtggcgnfockpgmaaGreatDoor
