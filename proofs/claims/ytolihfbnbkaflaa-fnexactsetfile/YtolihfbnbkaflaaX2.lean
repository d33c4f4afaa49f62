import Derived.Test.YtolihfbnbkaflaaX1
import Derived.Outline
namespace Go.Proofs.Ytolihfbnbkaflaa
set_option linter.unusedSimpArgs false
open Go.RowKit
theorem own_cap {w : World} {B : Nat} {a : Option Addr} {n c : Nat} {fs : List F2} (h : OwnF w B (.slice a n c) fs) : fs.length ≤ c := by
  rcases h.2 with ⟨hv, h0⟩ | ⟨g, cap, cur, hv, hg, hh, hnc, _⟩
  · omega
  · injection hv with _ _ e; omega
theorem addX (b off i : Nat) : (⟨b, off, none⟩ : Addr).add i = ⟨b, off + i, none⟩ := by unfold Addr.add; split <;> simp_all
theorem own_src {u : World} {B : Nat} {av : Option Addr} {cv : Nat} {old : List F2} {k : Nat} (h : OwnF u B (.slice av old.length cv) old) (hk : k ≤ old.length) :
    (av = none → old.length = 0 ∧ cv = 0) ∧ (∀ ad, av = some ad → ∀ j v, (fileCells (old.take k))[j]? = some v → u.cell? (ad.add j) = some v) ∧ (∀ ad, (if cv = k then av else Option.map (fun x => x.add (k * 2)) av) = some ad → ∀ j v, (fileCells (old.drop k))[j]? = some v → u.cell? (ad.add j) = some v) ∧ (∀ b, (Value.slice av old.length cv).ownBlock = some b → b < u.heap.size) := by
  have hcap := own_cap h
  have hlt := h.lt
  have h' := h
  rcases h.2 with ⟨hv, h0⟩ | ⟨g, cap, cur, hv, hg, hh, hnc, _⟩
  · injection hv with e1 e2 e3
    subst e1
    refine ⟨fun _ => ⟨h0, e3⟩, fun ad h => (by cases h), fun ad h => ?_, fun b hb => (hlt b hb).2⟩
    by_cases hc : cv = k
    · rw [if_pos hc] at h; cases h
    · rw [if_neg hc] at h; cases h
  · injection hv with e1 e2 e3
    subst e1
    subst e3
    have hc : ∀ i, i < old.length → u.cell? ⟨g, i * 2, none⟩ = some (.string (old.getD i f2z).nm) ∧ u.cell? ⟨g, i * 2 + 1, none⟩ = some (.string (old.getD i f2z).tx) := fun i hi => by
      obtain ⟨f0, f1⟩ := fileCells_get old i hi
      have a0 := h'.cellAt (i * 2) (by omega)
      have a1 := h'.cellAt (i * 2 + 1) (by omega)
      rw [a0, a1]
      exact ⟨f0, f1⟩
    refine ⟨fun h => (by cases h), fun ad h j v hv => ?_, fun ad h j v hv => ?_, fun b hb => (hlt b hb).2⟩
    · injection h with h
      subst h
      refine files_cells (b := g) (off := 0) (fs := old.take k) (fun i hi => ?_) j v hv
      rw [List.length_take] at hi
      rw [Nat.zero_add, take_getD (by omega)]
      exact hc i (by omega)
    · by_cases hck : cv = k
      · have hl : old.drop k = [] := List.drop_eq_nil_of_le (by omega)
        rw [hl] at hv
        simp [fileCells] at hv
      · rw [if_neg hck] at h
        have hg : (⟨g, k * 2, none⟩ : Addr) = ad := by
          simp only [Option.map_some, Option.some.injEq] at h
          rw [← h, addX, Nat.zero_add]
        subst hg
        refine files_cells (b := g) (off := k * 2) (fs := old.drop k) (fun i hi => ?_) j v hv
        rw [List.length_drop] at hi
        rw [drop_getD, show k * 2 + i * 2 = (k + i) * 2 by omega]
        exact hc (k + i) (by omega)

set_option maxHeartbeats 4000000 in
set_option maxRecDepth 100000 in
theorem c12 (a : Option Addr) (cap : Nat) (fs : List F2) (x : F2) (w : World) (hl : fs.length ≤ 1048576) (hs : ∀ i, (fs.getD i f2z).le 1048576) (hx : x.le 1048576) (hat : FilesAt w a fs) :
    Calls Try.prog 12 #[.agg #[.slice a fs.length cap], .agg #[.string x.nm, .string x.tx]] w fun e w' => (∃ v c gs, e = .returned (.tuple #[.agg #[v], .int .i64 c]) ∧ OwnF w' w.heap.size v gs ∧ SetR fs x c gs) ∧ Below w.heap.size w w' := by
  have HA : Hid (FilesAt w a fs) := hat
  have HS : Hid (∀ i, (fs.getD i f2z).le 1048576) := hs
  have hx7 : x.le 1048700 := ⟨Nat.le_trans hx.1 (by omega), Nat.le_trans hx.2 (by omega)⟩
  have HX7 : Hid (x.le 1048700) := hx7
  have H0 : Hid (ThreeAt w (((w.alloc (.cells #[.slice a fs.length cap] 29)).alloc (.cells #[.string x.nm, .string x.tx] 38)).alloc (.cells #[.slice none 0 0] 29)) (.slice a fs.length cap) x (.slice none 0 0)) := ThreeAt.start _ _ _ _
  obtain ⟨i0, hi, hz0, hz1, hz2⟩ := info_parts info38
  clear hat hs hx hx7
  go_enter Try.func12, Try.ntmps12
  go_wp2_with fail
  refine (c7 a cap fs _ hl HS.out (files_below HA.out H0.out.bel)).mono ?_
  rintro e u1 ⟨⟨v, rfl, hv⟩, hb1⟩
  have HV : Hid (v = true ↔ treeOk fs) := hv
  have H1 : Hid (ThreeAt w u1 (.slice a fs.length cap) x (.slice none 0 0)) := H0.out.later hb1
  obtain ⟨t1, n1, x1, r1, f1⟩ := H1.out.cells
  clear hv hb1 H0
  cases v
  · have HR : Hid (SetR fs x 1 []) := .inl ⟨fun h => (by have := HV.out.2 h; cases this), rfl, rfl⟩
    clear HV
    go_wp2
    refine bodyPost_ret (v := .tuple #[.agg #[.slice none 0 0], .int .i64 1]) (by simp [results, Try.results12, go_sem, r1]) rfl ⟨⟨_, _, _, rfl, own_nil _ _, HR.out⟩, H1.out.bel.setCell (by simp; omega) _⟩
  have hok := HV.out.1 rfl
  have hl40 : fs.length ≤ 40 := hok.1
  have HOK : Hid (treeOk fs) := hok
  clear hok HV
  go_wp2_with fail
  refine (c20 x u1 HX7.out).mono ?_
  rintro e u2 ⟨rfl, hb2⟩
  have H2 : Hid (ThreeAt w u2 (.slice a fs.length cap) x (.slice none 0 0)) := H1.out.later hb2
  clear hb2 t1 n1 x1 r1 f1 H1
  obtain ⟨t2, n2, x2, r2, f2⟩ := H2.out.cells
  cases hfx : fileOk x
  · have HR : Hid (SetR fs x 2 []) := .inr (.inl ⟨HOK.out, hfx, rfl, rfl⟩)
    go_wp2
    refine bodyPost_ret (v := .tuple #[.agg #[.slice none 0 0], .int .i64 2]) (by simp [results, Try.results12, go_sem, r2]) rfl ⟨⟨_, _, _, rfl, own_nil _ _, HR.out⟩, H2.out.bel.setCell (by simp; omega) _⟩
  go_wp2_with fail
  refine (c24 a cap fs x.nm u2 hl40 (files_below HA.out H2.out.bel)).mono ?_
  rintro e u3 ⟨⟨vo, rfl, hoo⟩, hb3⟩
  have hz2' := H2.out.sz
  have hol : (without fs x.nm).length ≤ 40 := Nat.le_trans (without_len _ _) hl40
  have HR3 : Hid (40 ≤ (without fs x.nm).length → SetR fs x 3 []) := fun h => .inr (.inr (.inl ⟨HOK.out, hfx, h, rfl, rfl⟩))
  have HR0 : Hid ((without fs x.nm).length < 40 → ∀ k, KAt (without fs x.nm) x.nm k → SetR fs x 0 (ins (without fs x.nm) k x)) := fun h k hk => .inr (.inr (.inr ⟨HOK.out, hfx, h, rfl, k, hk, rfl⟩))
  generalize without fs x.nm = old at *
  obtain ⟨av, cv, hve, hfo⟩ := hoo.form
  subst hve
  have hcv : old.length ≤ cv := own_cap hoo
  have hA3 : Below u3.heap.size u3 (u3.alloc (.cells #[.slice av old.length cv] 29)) := (Below.refl _ _).alloc (Nat.le_refl _) _
  have H3 : Hid (ThreeAt w (u3.alloc (.cells #[.slice av old.length cv] 29)) (.slice a fs.length cap) x (.slice none 0 0)) := (H2.out.later hb3).later hA3
  have HO3 : Hid (BlkAt (u3.alloc (.cells #[.slice av old.length cv] 29)) u3.heap.size (.slice av old.length cv) 29) := BlkAt.new _ _ _
  have HOW : Hid (OwnF (u3.alloc (.cells #[.slice av old.length cv] 29)) (u2.heap.size + 3) (.slice av old.length cv) old) := hoo.below hA3
  have HFO : Hid (FilesAt (u3.alloc (.cells #[.slice av old.length cv] 29)) av old) := files_below hfo hA3
  have hOz : w.heap.size + 3 ≤ u3.heap.size := by have := hb3.size; omega
  have dO := HO3.out.cell
  clear hfo hoo hb3 hA3 t2 n2 x2 r2 f2 H2
  obtain ⟨t3, n3, x3, r3, f3⟩ := H3.out.cells
  by_cases h40 : 40 ≤ old.length
  · have HRR := HR3.out h40
    have HR : Hid (SetR fs x 3 []) := HRR
    clear HRR
    go_wp2
    refine bodyPost_ret (v := .tuple #[.agg #[.slice none 0 0], .int .i64 3]) (by simp [results, Try.results12, go_sem, r3]) rfl ⟨⟨_, _, _, rfl, own_nil _ _, HR.out⟩, H3.out.bel.setCell (by simp; omega) _⟩
  have h40' : decide ((40 : Int) ≤ (old.length : Int)) = false := decide_eq_false (by omega)
  go_wp2_with fail
  generalize (u3.alloc (.cells #[.slice av old.length cv] 29)) = U3 at *
  generalize u3.heap.size = O at *
  go_loopw [7] (fun i wr => ∃ k : Nat, k ≤ old.length ∧ i = .int .i64 k ∧ Hid (Below U3.heap.size U3 wr) ∧ Hid (∀ j, j < k → lt (old.getD j f2z).nm x.nm = true)) (fun i _ => old.length - (intOf i).toNat)
  case atStart => exact ⟨0, Nat.zero_le _, rfl, Below.refl _ _, fun j h => absurd h (Nat.not_lt_zero _)⟩
  case round =>
    obtain ⟨k, hk, rfl, hbr, hless⟩ := hrel
    have Hr : Hid (ThreeAt w wr (.slice a fs.length cap) x (.slice none 0 0)) := H3.out.later hbr.out
    have HOr : Hid (BlkAt wr O (.slice av old.length cv) 29) := HO3.out.later hbr.out
    have HWr : Hid (OwnF wr (u2.heap.size + 3) (.slice av old.length cv) old) := HOW.out.below hbr.out
    have dOr := HOr.out.cell
    obtain ⟨tr, nr, xr, rr, fr⟩ := Hr.out.cells
    by_cases hlt : k < old.length
    · obtain ⟨go, co, hvo, hgo, hco, hcel, hfzo, hgwo⟩ := own_parts HWr.out hlt
      have hav : av = some ⟨go, 0, none⟩ ∧ cv = co := by injection hvo with h1 _ h3; exact ⟨h1, h3⟩
      obtain ⟨hav, hcc⟩ := hav
      subst hav
      subst hcc
      have g0 := (hcel k hlt).1
      have HLT : Hid (lt (old.getD k f2z).nm x.nm = true → ∀ j, j < k + 1 → lt (old.getD j f2z).nm x.nm = true) := fun h j hj => by
        rcases Nat.lt_or_ge j k with h1 | h1
        · exact hless.out j h1
        · obtain rfl : j = k := by omega
          exact h
      have HKF : Hid (lt (old.getD k f2z).nm x.nm = false → KAt old x.nm k) := fun h => ⟨hk, hless.out, .inr h⟩
      generalize old.getD k f2z = y at *
      clear hcel hvo
      have hkl : (k : Int) < (old.length : Int) := by omega
      have hkd : decide ((k : Int) < (old.length : Int)) = true := decide_eq_true hkl
      cases hq : Op.bytesLess y.nm.toList x.nm.toList
      · have HK : Hid (KAt old x.nm k) := HKF.out hq
        clear HLT HKF
        go_wp2_with fail
        refine wp_region_held_drew (S := (fun u => u.cell? ⟨O, 0, none⟩ = some (.slice (some ⟨go, 0, none⟩) old.length cv) ∧ u.cell? ⟨w.heap.size + 1, 0, none⟩ = some (.string x.nm) ∧ u.cell? ⟨go, k * 2, none⟩ = some (.string y.nm))) (by kernel_rfl) ?_ (fun hHeld => ?_)
        · ((try dsimp only); go_keep)
        refine wpAnyH_take (i := 0) (oi := { dst := some 25, op := Op.move (Operand.tmp 7), type := 3, pos := "l3_trees.go:58", after := #[], guard := none }) (v := ?_) rfl (by kernel_rfl) (by kernel_rfl) (by kernel_rfl) (fun _ _ _ h => h) (Or.inl ⟨by rfl, ?_⟩) (by assumption) ?_
        rotate_left
        · intro wq hSw
          (try dsimp only at hSw)
          go_simp
          try with_reducible rfl
        try simp only [Act.put, List.setIfInBounds_toArray, List.set_cons_zero, List.set_cons_succ]
        refine wpAnyH_take (i := 1) (oi := { dst := some 26, op := Op.fieldAddr 29 (Operand.tmp 6) 0, type := 0, pos := "l3_trees.go:58", after := #[], guard := none }) (v := ?_) rfl (by kernel_rfl) (by kernel_rfl) (by kernel_rfl) (fun _ _ _ h => h) (Or.inl ⟨by rfl, ?_⟩) (by assumption) ?_
        rotate_left
        · intro wq hSw
          (try dsimp only at hSw)
          go_simp
          try with_reducible rfl
        try simp only [Act.put, List.setIfInBounds_toArray, List.set_cons_zero, List.set_cons_succ]
        refine wpAnyH_take (i := 2) (oi := { dst := some 27, op := Op.load 27 (Operand.tmp 26), type := 27, pos := "l3_trees.go:58", after := #[{ on := 1, ground := Ground.data }], guard := none }) (v := ?_) rfl (by kernel_rfl) (by kernel_rfl) (by kernel_rfl) (fun _ _ _ h => h) (Or.inl ⟨by rfl, ?_⟩) (by assumption) ?_
        rotate_left
        · intro wq hSw
          (try dsimp only at hSw)
          go_simp
          try with_reducible rfl
        try simp only [Act.put, List.setIfInBounds_toArray, List.set_cons_zero, List.set_cons_succ]
        refine wpAnyH_take (i := 3) (oi := { dst := some 28, op := Op.call { callee := Callee.builtin Builtin.len, args := #[Operand.tmp 27], argTypes := #[27] }, type := 3, pos := "l3_trees.go:58", after := #[{ on := 2, ground := Ground.data }], guard := none }) (v := ?_) rfl (by kernel_rfl) (by kernel_rfl) (by kernel_rfl) (fun _ _ _ h => h) (Or.inl ⟨by rfl, ?_⟩) (by assumption) ?_
        rotate_left
        · intro wq hSw
          (try dsimp only at hSw)
          go_simp
          try with_reducible rfl
        try simp only [Act.put, List.setIfInBounds_toArray, List.set_cons_zero, List.set_cons_succ]
        refine wpAnyH_take (i := 4) (oi := { dst := some 29, op := Op.binOp BinOp.lss 3 (Operand.tmp 25) (Operand.tmp 28) 3, type := 4, pos := "l3_trees.go:58", after := #[{ on := 0, ground := Ground.data }, { on := 3, ground := Ground.data }], guard := none }) (v := ?_) rfl (by kernel_rfl) (by kernel_rfl) (by kernel_rfl) (fun _ _ _ h => h) (Or.inl ⟨by rfl, ?_⟩) (by assumption) ?_
        rotate_left
        · intro wq hSw
          (try dsimp only at hSw)
          go_simp
          try with_reducible rfl
        try simp only [Act.put, List.setIfInBounds_toArray, List.set_cons_zero, List.set_cons_succ]
        refine wpAnyH_take (i := 5) (oi := { dst := some 30, op := Op.move (Operand.tmp 29), type := 4, pos := "l3_trees.go:58", after := #[{ on := 4, ground := Ground.data }], guard := none }) (v := ?_) rfl (by kernel_rfl) (by kernel_rfl) (by kernel_rfl) (fun _ _ _ h => h) (Or.inl ⟨by rfl, ?_⟩) (by assumption) ?_
        rotate_left
        · intro wq hSw
          (try dsimp only at hSw)
          go_simp
          try with_reducible rfl
        try simp only [Act.put, List.setIfInBounds_toArray, List.set_cons_zero, List.set_cons_succ]
        refine wpAnyH_take (i := 6) (oi := { dst := some 31, op := Op.fieldAddr 29 (Operand.tmp 6) 0, type := 0, pos := "l3_trees.go:58", after := #[{ on := 5, ground := Ground.guard }], guard := some (5, true) }) (v := ?_) rfl (by kernel_rfl) (by kernel_rfl) (by kernel_rfl) (fun _ _ _ h => h) (Or.inl ⟨by rfl, ?_⟩) (by assumption) ?_
        rotate_left
        · intro wq hSw
          (try dsimp only at hSw)
          go_simp
          try with_reducible rfl
        try simp only [Act.put, List.setIfInBounds_toArray, List.set_cons_zero, List.set_cons_succ]
        refine wpAnyH_take (i := 7) (oi := { dst := some 32, op := Op.load 27 (Operand.tmp 31), type := 27, pos := "l3_trees.go:58", after := #[{ on := 6, ground := Ground.data }, { on := 5, ground := Ground.guard }], guard := some (5, true) }) (v := ?_) rfl (by kernel_rfl) (by kernel_rfl) (by kernel_rfl) (fun _ _ _ h => h) (Or.inl ⟨by rfl, ?_⟩) (by assumption) ?_
        rotate_left
        · intro wq hSw
          (try dsimp only at hSw)
          go_simp
          try with_reducible rfl
        try simp only [Act.put, List.setIfInBounds_toArray, List.set_cons_zero, List.set_cons_succ]
        refine wpAnyH_take (i := 8) (oi := { dst := some 33, op := Op.move (Operand.tmp 7), type := 3, pos := "l3_trees.go:58", after := #[{ on := 5, ground := Ground.guard }], guard := some (5, true) }) (v := ?_) rfl (by kernel_rfl) (by kernel_rfl) (by kernel_rfl) (fun _ _ _ h => h) (Or.inl ⟨by rfl, ?_⟩) (by assumption) ?_
        rotate_left
        · intro wq hSw
          (try dsimp only at hSw)
          go_simp
          try with_reducible rfl
        try simp only [Act.put, List.setIfInBounds_toArray, List.set_cons_zero, List.set_cons_succ]
        refine wpAnyH_take (i := 9) (oi := { dst := some 34, op := Op.indexAddr 27 (Operand.tmp 32) (Operand.tmp 33), type := 0, pos := "l3_trees.go:58", after := #[{ on := 7, ground := Ground.data }, { on := 8, ground := Ground.data }, { on := 5, ground := Ground.guard }], guard := some (5, true) }) (v := ?_) rfl (by kernel_rfl) (by kernel_rfl) (by kernel_rfl) (fun _ _ _ h => h) (Or.inl ⟨by rfl, ?_⟩) (by assumption) ?_
        rotate_left
        · intro wq hSw
          (try dsimp only at hSw)
          go_simp
          try with_reducible rfl
        try simp only [Act.put, List.setIfInBounds_toArray, List.set_cons_zero, List.set_cons_succ]
        refine wpAnyH_take (i := 10) (oi := { dst := some 35, op := Op.fieldAddr 38 (Operand.tmp 34) 0, type := 0, pos := "l3_trees.go:58", after := #[{ on := 9, ground := Ground.data }, { on := 5, ground := Ground.guard }], guard := some (5, true) }) (v := ?_) rfl (by kernel_rfl) (by kernel_rfl) (by kernel_rfl) (fun _ _ _ h => h) (Or.inl ⟨by rfl, ?_⟩) (by assumption) ?_
        rotate_left
        · intro wq hSw
          (try dsimp only at hSw)
          go_simp
          try with_reducible rfl
        try simp only [Act.put, List.setIfInBounds_toArray, List.set_cons_zero, List.set_cons_succ]
        refine wpAnyH_take (i := 11) (oi := { dst := some 36, op := Op.load 9 (Operand.tmp 35), type := 9, pos := "l3_trees.go:58", after := #[{ on := 10, ground := Ground.data }, { on := 5, ground := Ground.guard }], guard := some (5, true) }) (v := ?_) rfl (by kernel_rfl) (by kernel_rfl) (by kernel_rfl) (fun _ _ _ h => h) (Or.inl ⟨by rfl, ?_⟩) (by assumption) ?_
        rotate_left
        · intro wq hSw
          (try dsimp only at hSw)
          go_simp
          try with_reducible rfl
        try simp only [Act.put, List.setIfInBounds_toArray, List.set_cons_zero, List.set_cons_succ]
        refine wpAnyH_take (i := 12) (oi := { dst := some 37, op := Op.fieldAddr 38 (Operand.tmp 3) 0, type := 0, pos := "l3_trees.go:58", after := #[{ on := 5, ground := Ground.guard }], guard := some (5, true) }) (v := ?_) rfl (by kernel_rfl) (by kernel_rfl) (by kernel_rfl) (fun _ _ _ h => h) (Or.inl ⟨by rfl, ?_⟩) (by assumption) ?_
        rotate_left
        · intro wq hSw
          (try dsimp only at hSw)
          go_simp
          try with_reducible rfl
        try simp only [Act.put, List.setIfInBounds_toArray, List.set_cons_zero, List.set_cons_succ]
        refine wpAnyH_take (i := 13) (oi := { dst := some 38, op := Op.load 9 (Operand.tmp 37), type := 9, pos := "l3_trees.go:58", after := #[{ on := 12, ground := Ground.data }, { on := 5, ground := Ground.guard }], guard := some (5, true) }) (v := ?_) rfl (by kernel_rfl) (by kernel_rfl) (by kernel_rfl) (fun _ _ _ h => h) (Or.inl ⟨by rfl, ?_⟩) (by assumption) ?_
        rotate_left
        · intro wq hSw
          (try dsimp only at hSw)
          go_simp
          try with_reducible rfl
        try simp only [Act.put, List.setIfInBounds_toArray, List.set_cons_zero, List.set_cons_succ]
        refine wpAnyH_take (i := 14) (oi := { dst := some 39, op := Op.binOp BinOp.lss 9 (Operand.tmp 36) (Operand.tmp 38) 9, type := 4, pos := "l3_trees.go:58", after := #[{ on := 11, ground := Ground.data }, { on := 13, ground := Ground.data }, { on := 5, ground := Ground.guard }], guard := some (5, true) }) (v := ?_) rfl (by kernel_rfl) (by kernel_rfl) (by kernel_rfl) (fun _ _ _ h => h) (Or.inl ⟨by rfl, ?_⟩) (by assumption) ?_
        rotate_left
        · intro wq hSw
          (try dsimp only at hSw)
          go_simp
          try with_reducible rfl
        try simp only [Act.put, List.setIfInBounds_toArray, List.set_cons_zero, List.set_cons_succ]
        refine wpAnyH_take (i := 15) (oi := { dst := some 40, op := Op.pick (Operand.tmp 30) (Operand.tmp 39) (Operand.const (Value.bool false)), type := 4, pos := "l3_trees.go:58", after := #[{ on := 5, ground := Ground.data }, { on := 14, ground := Ground.data }], guard := none }) (v := ?_) rfl (by kernel_rfl) (by kernel_rfl) (by kernel_rfl) (fun _ _ _ h => h) (Or.inl ⟨by rfl, ?_⟩) (by assumption) ?_
        rotate_left
        · intro wq hSw
          (try dsimp only at hSw)
          go_simp
          try with_reducible rfl
        try simp only [Act.put, List.setIfInBounds_toArray, List.set_cons_zero, List.set_cons_succ]
        refine wpAnyH_done (by kernel_rfl) ?_ _
        clear hHeld
        have Hu : Hid (ThreeAt w wr.drew (.slice a fs.length cap) x (.slice none 0 0)) := Hr.out.later ((Below.refl _ _).drew)
        have HOb : Hid (BlkAt wr.drew O (.slice (some ⟨go, 0, none⟩) old.length cv) 29) := HOr.out.later ((Below.refl _ _).drew)
        have HWu : Hid (OwnF wr.drew (u2.heap.size + 3) (.slice (some ⟨go, 0, none⟩) old.length cv) old) := HWr.out.below ((Below.refl _ _).drew)
        clear Hr HOr HWr dOr tr nr xr rr fr HOW HO3 H3 HFO dO t3 n3 x3 r3 f3 hbr hless g0 hq hfzo
        generalize (some (⟨go, 0, none⟩ : Addr)) = av at *
        go_wp2_with fail
        generalize wr.drew = u at *
        have dO := HOb.out.cell
        obtain ⟨t3, n3, x3, r3, f3⟩ := Hu.out.cells
        have hzu := Hu.out.sz
        have hkc : k ≤ cv := by omega
        have hkI : (k : Int) ≤ (old.length : Int) := by omega
        have hkI0 : (0 : Int) ≤ (k : Int) := by omega
        have hsrc := own_src HWu.out hk
        have HS0 : Hid (av = none → old.length = 0 ∧ cv = 0) := hsrc.1
        have HS1 : Hid (∀ ad, av = some ad → ∀ j v, (fileCells (old.take k))[j]? = some v → u.cell? (ad.add j) = some v) := hsrc.2.1
        obtain ⟨A2, hA2⟩ : ∃ A2, (if cv = k then av else Option.map (fun x => x.add (k * 2)) av) = A2 := ⟨_, rfl⟩
        have HS2 : Hid (∀ ad, A2 = some ad → ∀ j v, (fileCells (old.drop k))[j]? = some v → u.cell? (ad.add j) = some v) := by have h := hsrc.2.2.1; rw [hA2] at h; exact h
        have HS3 : Hid (A2 = none → old.length - k = 0 ∧ cv - k = 0) := fun h => by
          cases hav : av with
          | none => have := HS0.out hav; omega
          | some ad => rw [← hA2, hav] at h; by_cases hc : cv = k <;> simp [hc] at h
        clear hsrc
        have hsrcB : ∀ {ad : Addr} {v : Value}, u.cell? ad = some v → ∀ {y : World}, Below u.heap.size u y → y.cell? ad = some v := fun {ad v} h {y} hb => by
          rw [hb.cell (World.block_lt_of_cell? _ _ h)]; exact h
        have HSB : Hid (∀ {ad : Addr} {v : Value}, u.cell? ad = some v → ∀ {y : World}, Below u.heap.size u y → y.cell? ad = some v) := hsrcB
        clear hsrcB
        go_wp2_with fail
        have hOu : O < u.heap.size := HOb.out.lt
        have hFu : w.heap.size + 1 < u.heap.size := by omega
        refine wp_region_held_drew (S := (fun u => u.cell? ⟨O, 0, none⟩ = some (.slice av old.length cv) ∧ u.cell? ⟨w.heap.size + 1, 0, none⟩ = some (.string x.nm) ∧ u.cell? ⟨w.heap.size + 1, 1, none⟩ = some (.string x.tx))) (by kernel_rfl) ?_ (fun hHeld => ?_)
        · ((try dsimp only); exact ⟨dO, n3, x3⟩)
        refine wpAnyH_take (i := 1) (oi := { dst := some 44, op := Op.fieldAddr 29 (Operand.tmp 6) 0, type := 0, pos := "l3_trees.go:61", after := #[], guard := none }) (v := ?_) rfl (by kernel_rfl) (by kernel_rfl) (by kernel_rfl) (fun _ _ _ h => h) (Or.inl ⟨by rfl, ?_⟩) (by assumption) ?_
        rotate_left
        · intro wq hSw
          (try dsimp only at hSw)
          go_simp
          try with_reducible rfl
        try simp only [Act.put, List.setIfInBounds_toArray, List.set_cons_zero, List.set_cons_succ]
        refine wpAnyH_take (i := 2) (oi := { dst := some 45, op := Op.load 27 (Operand.tmp 44), type := 27, pos := "l3_trees.go:61", after := #[{ on := 1, ground := Ground.data }], guard := none }) (v := ?_) rfl (by kernel_rfl) (by kernel_rfl) (by kernel_rfl) (fun _ _ _ h => h) (Or.inl ⟨by rfl, ?_⟩) (by assumption) ?_
        rotate_left
        · intro wq hSw
          (try dsimp only at hSw)
          go_simp
          try with_reducible rfl
        try simp only [Act.put, List.setIfInBounds_toArray, List.set_cons_zero, List.set_cons_succ]
        refine wpAnyH_take (i := 3) (oi := { dst := some 46, op := Op.move (Operand.tmp 7), type := 3, pos := "l3_trees.go:61", after := #[], guard := none }) (v := ?_) rfl (by kernel_rfl) (by kernel_rfl) (by kernel_rfl) (fun _ _ _ h => h) (Or.inl ⟨by rfl, ?_⟩) (by assumption) ?_
        rotate_left
        · intro wq hSw
          (try dsimp only at hSw)
          go_simp
          try with_reducible rfl
        try simp only [Act.put, List.setIfInBounds_toArray, List.set_cons_zero, List.set_cons_succ]
        refine wpAnyH_take (i := 4) (oi := { dst := some 47, op := Op.slice 27 (Operand.tmp 45) none (some (Operand.tmp 46)) none, type := 27, pos := "l3_trees.go:61", after := #[{ on := 2, ground := Ground.data }, { on := 3, ground := Ground.data }], guard := none }) (v := ?_) rfl (by kernel_rfl) (by kernel_rfl) (by kernel_rfl) (fun _ _ _ h => h) (Or.inl ⟨by rfl, ?_⟩) (by assumption) ?_
        rotate_left
        · intro wq hSw
          (try dsimp only at hSw)
          go_simp
          try with_reducible rfl
        try simp only [Act.put, List.setIfInBounds_toArray, List.set_cons_zero, List.set_cons_succ]
        refine wpAnyH_take (i := 6) (oi := { dst := some 49, op := Op.load 38 (Operand.tmp 3), type := 38, pos := "l3_trees.go:61", after := #[], guard := none }) (v := ?_) rfl (by kernel_rfl) (by kernel_rfl) (by kernel_rfl) (fun _ _ _ h => h) (Or.inl ⟨by rfl, ?_⟩) (by assumption) ?_
        rotate_left
        · intro wq hSw
          (try dsimp only at hSw)
          go_simp
          try with_reducible rfl
        try simp only [Act.put, List.setIfInBounds_toArray, List.set_cons_zero, List.set_cons_succ]
        refine wpAnyH_take (i := 9) (oi := { dst := some 52, op := Op.fieldAddr 29 (Operand.tmp 6) 0, type := 0, pos := "l3_trees.go:61", after := #[], guard := none }) (v := ?_) rfl (by kernel_rfl) (by kernel_rfl) (by kernel_rfl) (fun _ _ _ h => h) (Or.inl ⟨by rfl, ?_⟩) (by assumption) ?_
        rotate_left
        · intro wq hSw
          (try dsimp only at hSw)
          go_simp
          try with_reducible rfl
        try simp only [Act.put, List.setIfInBounds_toArray, List.set_cons_zero, List.set_cons_succ]
        refine wpAnyH_take (i := 10) (oi := { dst := some 53, op := Op.load 27 (Operand.tmp 52), type := 27, pos := "l3_trees.go:61", after := #[{ on := 9, ground := Ground.data }], guard := none }) (v := ?_) rfl (by kernel_rfl) (by kernel_rfl) (by kernel_rfl) (fun _ _ _ h => h) (Or.inl ⟨by rfl, ?_⟩) (by assumption) ?_
        rotate_left
        · intro wq hSw
          (try dsimp only at hSw)
          go_simp
          try with_reducible rfl
        try simp only [Act.put, List.setIfInBounds_toArray, List.set_cons_zero, List.set_cons_succ]
        refine wpAnyH_take (i := 11) (oi := { dst := some 54, op := Op.move (Operand.tmp 7), type := 3, pos := "l3_trees.go:61", after := #[], guard := none }) (v := ?_) rfl (by kernel_rfl) (by kernel_rfl) (by kernel_rfl) (fun _ _ _ h => h) (Or.inl ⟨by rfl, ?_⟩) (by assumption) ?_
        rotate_left
        · intro wq hSw
          (try dsimp only at hSw)
          go_simp
          try with_reducible rfl
        try simp only [Act.put, List.setIfInBounds_toArray, List.set_cons_zero, List.set_cons_succ]
        refine wpAnyH_take (i := 12) (oi := { dst := some 55, op := Op.slice 27 (Operand.tmp 53) (some (Operand.tmp 54)) none none, type := 27, pos := "l3_trees.go:61", after := #[{ on := 10, ground := Ground.data }, { on := 11, ground := Ground.data }], guard := none }) (v := ?_) rfl (by kernel_rfl) (by kernel_rfl) (by kernel_rfl) (fun _ _ _ h => h) (Or.inl ⟨by rfl, ?_⟩) (by assumption) ?_
        rotate_left
        · intro wq hSw
          (try dsimp only at hSw)
          go_simp
          try with_reducible rfl
        try simp only [Act.put, List.setIfInBounds_toArray, List.set_cons_zero, List.set_cons_succ]
        refine wpAnyH_ready (rs := [0, 7]) (by kernel_rfl) (by simp) ?_
        refine AllReadyH.cons (o := { dst := some 43, op := Op.buildSlice 27 0 #[], type := 27, pos := "l3_trees.go:61", after := #[], guard := none }) rfl (fun K hK => ?_) (AllReadyH.cons (o := { dst := some 50, op := Op.buildSlice 27 1 #[(0, Operand.tmp 49)], type := 27, pos := "l3_trees.go:61", after := #[{ on := 6, ground := Ground.data }], guard := none }) rfl (fun K hK => ?_) AllReadyH.nil)
        · go_simp
          have own1 : (u.alloc (.cells #[] 38)).drew.ownsRow u.heap.size 38 2 (.slice (some ⟨u.heap.size, 0, none⟩) 0 0) 0 [] := (World.ownsRow_made u #[] 0 (Nat.le_refl _) (Nat.zero_le _) rfl).drew
          have HB1 : Hid (Below u.heap.size u (u.alloc (.cells #[] 38)).drew) := ((Below.refl _ _).alloc (Nat.le_refl _) _).drew
          have hz1y : u.heap.size < (u.alloc (.cells #[] 38)).drew.heap.size := by show u.heap.size < (u.alloc _).heap.size; simp
          clear hHeld
          refine hK.out _ _ ?_ (fun hHeld => ?_)
          · ((try dsimp only); exact ⟨(HB1.out.cell (p := ⟨O, 0, none⟩) hOu).trans dO, (HB1.out.cell (p := ⟨w.heap.size + 1, 0, none⟩) hFu).trans n3, (HB1.out.cell (p := ⟨w.heap.size + 1, 1, none⟩) hFu).trans x3⟩)
          clear hK K
          try simp only [Act.put, List.setIfInBounds_toArray, List.set_cons_zero, List.set_cons_succ]
          generalize (u.alloc (.cells #[] 38)).drew = y1 at *
          refine wpAnyH_ready (rs := [5, 7]) (by kernel_rfl) (by simp) ?_
          refine AllReadyH.cons (o := { dst := some 48, op := Op.call { callee := Callee.builtin Builtin.append, args := #[Operand.tmp 43, Operand.tmp 47], argTypes := #[27, 27] }, type := 27, pos := "l3_trees.go:61", after := #[{ on := 0, ground := Ground.data }, { on := 4, ground := Ground.data }], guard := none }) rfl (fun K hK => ?_) (AllReadyH.cons (o := { dst := some 50, op := Op.buildSlice 27 1 #[(0, Operand.tmp 49)], type := 27, pos := "l3_trees.go:61", after := #[{ on := 6, ground := Ground.data }], guard := none }) rfl (fun K hK => ?_) AllReadyH.nil)
          · refine step_appG rfl (.tmp 43) (.tmp 47) 27 rfl u.heap.size 38 i0 (.agg #[.string ⟨#[]⟩, .string ⟨#[]⟩]) 2 32 Try.underlying27 hi hz0 hz1 hz2 rfl (by decide) _ _ _ rfl own1 _ k cv (fileCells (old.take k)) rfl (fun h => ⟨by have := (HS0.out h).1; omega, (HS0.out h).2⟩) (by rw [fileCells_len, List.length_take, Nat.min_eq_left hk]) (fun ad h j v hv => HSB.out (HS1.out ad h j v hv) HB1.out) fileCells_one (by unfold maxLen; omega) (by omega) (by omega) ?_
            intro v5 y2 owny2 growy2
            have HB2 : Hid (Below u.heap.size u y2) := HB1.out.grown growy2 (by omega) (fun kb h => (own1.lt kb h).1)
            have ownk : y2.ownsRow u.heap.size 38 2 v5 k (fileCells (old.take k)) := by have h := owny2; rw [Nat.zero_add, List.nil_append] at h; exact h
            obtain ⟨ao5, c5, hv5⟩ := row_form2 ownk
            subst hv5
            clear growy2 owny2
            clear hHeld
            refine hK.out _ _ ?_ (fun hHeld => ?_)
            · ((try dsimp only); exact ⟨(HB2.out.cell (p := ⟨O, 0, none⟩) hOu).trans dO, (HB2.out.cell (p := ⟨w.heap.size + 1, 0, none⟩) hFu).trans n3, (HB2.out.cell (p := ⟨w.heap.size + 1, 1, none⟩) hFu).trans x3⟩)
            clear hK K
            try simp only [Act.put, List.setIfInBounds_toArray, List.set_cons_zero, List.set_cons_succ]
            refine wpAnyH_ready (rs := [7]) (by kernel_rfl) (by simp) ?_
            refine AllReadyH.cons (o := { dst := some 50, op := Op.buildSlice 27 1 #[(0, Operand.tmp 49)], type := 27, pos := "l3_trees.go:61", after := #[{ on := 6, ground := Ground.data }], guard := none }) rfl (fun K hK => ?_) AllReadyH.nil
            go_simp
            have own3 : (y2.alloc (.cells #[.string x.nm, .string x.tx] 38)).ownsRow u.heap.size 38 2 (.slice ao5 k c5) k (fileCells (old.take k)) := ownk.alloc _
            have HB3 : Hid (Below u.heap.size u (y2.alloc (.cells #[.string x.nm, .string x.tx] 38))) := HB2.out.alloc HB2.out.size _
            have HQ3 : Hid (∀ j v, [Value.string x.nm, .string x.tx][j]? = some v → (y2.alloc (.cells #[.string x.nm, .string x.tx] 38)).cell? ((⟨y2.heap.size, 0, none⟩ : Addr).add j) = some v) := row2n y2 _ _ _
            have hz3y : u.heap.size ≤ (y2.alloc (.cells #[.string x.nm, .string x.tx] 38)).heap.size := HB3.out.size
            clear hHeld
            refine hK.out _ _ ?_ (fun hHeld => ?_)
            · ((try dsimp only); exact ⟨(HB3.out.cell (p := ⟨O, 0, none⟩) hOu).trans dO, (HB3.out.cell (p := ⟨w.heap.size + 1, 0, none⟩) hFu).trans n3, (HB3.out.cell (p := ⟨w.heap.size + 1, 1, none⟩) hFu).trans x3⟩)
            clear hK K
            try simp only [Act.put, List.setIfInBounds_toArray, List.set_cons_zero, List.set_cons_succ]
            generalize (y2.alloc (.cells #[.string x.nm, .string x.tx] 38)) = y3 at *
            generalize y2.heap.size = q3 at *
            refine wpAnyH_ready (rs := [8]) (by kernel_rfl) (by simp) ?_
            refine AllReadyH.cons (o := { dst := some 51, op := Op.call { callee := Callee.builtin Builtin.append, args := #[Operand.tmp 48, Operand.tmp 50], argTypes := #[27, 27] }, type := 27, pos := "l3_trees.go:61", after := #[{ on := 5, ground := Ground.data }, { on := 7, ground := Ground.data }, { on := 5, ground := Ground.chain }], guard := none }) rfl (fun K hK => ?_) AllReadyH.nil
            refine step_appG rfl (.tmp 48) (.tmp 50) 27 rfl u.heap.size 38 i0 (.agg #[.string ⟨#[]⟩, .string ⟨#[]⟩]) 2 32 Try.underlying27 hi hz0 hz1 hz2 rfl (by decide) _ _ _ rfl own3 _ 1 1 [.string x.nm, .string x.tx] rfl (fun h => by cases h) rfl (fun ad h j v hv => by injection h with h; rw [← h]; exact HQ3.out j v hv) (by intro v hv; simp at hv; rcases hv with rfl | rfl <;> rfl) (by unfold maxLen; omega) (by omega) (by omega) ?_
            intro v6 y4 own4 grow4
            have HB4 : Hid (Below u.heap.size u y4) := HB3.out.grown grow4 (by omega) (fun kb h => (own3.lt kb h).1)
            have hz4y : u.heap.size ≤ y4.heap.size := HB4.out.size
            obtain ⟨ao6, c6, hv6⟩ := row_form2 own4
            subst hv6
            clear grow4
            clear hHeld
            refine hK.out _ _ ?_ (fun hHeld => ?_)
            · ((try dsimp only); exact ⟨(HB4.out.cell (p := ⟨O, 0, none⟩) hOu).trans dO, (HB4.out.cell (p := ⟨w.heap.size + 1, 0, none⟩) hFu).trans n3, (HB4.out.cell (p := ⟨w.heap.size + 1, 1, none⟩) hFu).trans x3⟩)
            clear hK K
            try simp only [Act.put, List.setIfInBounds_toArray, List.set_cons_zero, List.set_cons_succ]
            refine wpAnyH_ready (rs := [13]) (by kernel_rfl) (by simp) ?_
            refine AllReadyH.cons (o := { dst := some 56, op := Op.call { callee := Callee.builtin Builtin.append, args := #[Operand.tmp 51, Operand.tmp 55], argTypes := #[27, 27] }, type := 27, pos := "l3_trees.go:61", after := #[{ on := 8, ground := Ground.data }, { on := 12, ground := Ground.data }, { on := 8, ground := Ground.chain }], guard := none }) rfl (fun K hK => ?_) AllReadyH.nil
            refine step_appG rfl (.tmp 51) (.tmp 55) 27 rfl u.heap.size 38 i0 (.agg #[.string ⟨#[]⟩, .string ⟨#[]⟩]) 2 32 Try.underlying27 hi hz0 hz1 hz2 rfl (by decide) _ _ _ rfl own4 A2 (old.length - k) (cv - k) (fileCells (old.drop k)) rfl HS3.out (by rw [fileCells_len, List.length_drop]) (fun ad h j v hv => HSB.out (HS2.out ad h j v hv) HB4.out) fileCells_one (by unfold maxLen; omega) (by omega) (by omega) ?_
            intro v7 y5 own5 grow5
            have HB5 : Hid (Below u.heap.size u y5) := HB4.out.grown grow5 (by omega) (fun kb h => (own4.lt kb h).1)
            have hz5y : u.heap.size ≤ y5.heap.size := HB5.out.size
            obtain ⟨ao7, c7, hv7⟩ := row_form2 own5
            subst hv7
            have e1 : k + 1 + (old.length - k) = (ins old k x).length := by rw [ins_len _ _ _ hk]; omega
            have HOF : Hid (OwnF y5 u.heap.size (.slice ao7 (k + 1 + (old.length - k)) c7) (ins old k x)) := by
              have h := own5
              rw [e1] at h ⊢
              have e2 : fileCells (old.take k) ++ [Value.string x.nm, .string x.tx] ++ fileCells (old.drop k) = fileCells (ins old k x) := by unfold ins; rw [fileCells_app]; simp [fileCells]
              rw [e2] at h
              exact h
            have r5 := HSB.out r3 HB5.out
            have f5 : y5.frozen? ⟨w.heap.size + 1 + 1, 0, none⟩ = false := (HB5.out.frozen (p := ⟨w.heap.size + 1 + 1, 0, none⟩) (by show w.heap.size + 1 + 1 < u.heap.size; omega)).trans f3
            have o5 := HSB.out dO HB5.out
            have n5 := HSB.out n3 HB5.out
            have x5 := HSB.out x3 HB5.out
            clear grow5 e1
            clear hHeld
            refine hK.out _ _ ?_ (fun hHeld => ?_)
            · ((try dsimp only); exact ⟨o5, n5, x5⟩)
            clear hK K
            try simp only [Act.put, List.setIfInBounds_toArray, List.set_cons_zero, List.set_cons_succ]
            refine wpAnyH_take (i := 14) (oi := { dst := some 57, op := Op.build 29 #[(0, Operand.tmp 56)], type := 29, pos := "l3_trees.go:61", after := #[{ on := 13, ground := Ground.data }], guard := none }) (v := ?_) rfl (by kernel_rfl) (by kernel_rfl) (by kernel_rfl) (fun _ _ _ h => h) (Or.inl ⟨by rfl, ?_⟩) (by assumption) ?_
            rotate_left
            · intro wq hSw
              (try dsimp only at hSw)
              go_simp
              try with_reducible rfl
            try simp only [Act.put, List.setIfInBounds_toArray, List.set_cons_zero, List.set_cons_succ]
            refine wpAnyH_ready (rs := [15]) (by kernel_rfl) (by simp) ?_
            refine AllReadyH.cons (o := { dst := none, op := Op.store 29 (Operand.tmp 4) (Operand.tmp 57), type := 0, pos := "l3_trees.go:61", after := #[{ on := 14, ground := Ground.data }, { on := 13, ground := Ground.chain }, { on := 0, ground := Ground.phase }, { on := 1, ground := Ground.phase }, { on := 2, ground := Ground.phase }, { on := 3, ground := Ground.phase }, { on := 4, ground := Ground.phase }, { on := 5, ground := Ground.phase }, { on := 6, ground := Ground.phase }, { on := 7, ground := Ground.phase }, { on := 8, ground := Ground.phase }, { on := 9, ground := Ground.phase }, { on := 10, ground := Ground.phase }, { on := 11, ground := Ground.phase }, { on := 12, ground := Ground.phase }, { on := 13, ground := Ground.phase }, { on := 14, ground := Ground.phase }], guard := none }) rfl (fun K hK => ?_) AllReadyH.nil
            go_simp
            clear hHeld
            refine hK.out _ _ ?_ (fun hHeld => ?_)
            · ((try dsimp only); exact ⟨(World.cell?_setCell_far _ _ _ _ (by show w.heap.size + 1 + 1 ≠ O; omega)).trans o5, (World.cell?_setCell_far _ _ _ _ (by show w.heap.size + 1 + 1 ≠ w.heap.size + 1; omega)).trans n5, (World.cell?_setCell_far _ _ _ _ (by show w.heap.size + 1 + 1 ≠ w.heap.size + 1; omega)).trans x5⟩)
            clear hK K
            try simp only [Act.put, List.setIfInBounds_toArray, List.set_cons_zero, List.set_cons_succ]
            refine wpAnyH_take (i := 16) (oi := { dst := some 5, op := Op.assign (Operand.const (Value.int IntKind.i64 0)), type := 3, pos := "l3_trees.go:61", after := #[{ on := 15, ground := Ground.chain }, { on := 0, ground := Ground.phase }, { on := 1, ground := Ground.phase }, { on := 2, ground := Ground.phase }, { on := 3, ground := Ground.phase }, { on := 4, ground := Ground.phase }, { on := 5, ground := Ground.phase }, { on := 6, ground := Ground.phase }, { on := 7, ground := Ground.phase }, { on := 8, ground := Ground.phase }, { on := 9, ground := Ground.phase }, { on := 10, ground := Ground.phase }, { on := 11, ground := Ground.phase }, { on := 12, ground := Ground.phase }, { on := 13, ground := Ground.phase }, { on := 14, ground := Ground.phase }, { on := 15, ground := Ground.phase }], guard := none }) (v := ?_) rfl (by kernel_rfl) (by kernel_rfl) (by kernel_rfl) (fun _ _ _ h => h) (Or.inl ⟨by rfl, ?_⟩) (by assumption) ?_
            rotate_left
            · intro wq hSw
              (try dsimp only at hSw)
              go_simp
              try with_reducible rfl
            try simp only [Act.put, List.setIfInBounds_toArray, List.set_cons_zero, List.set_cons_succ]
            refine wpAnyH_done (by kernel_rfl) ?_ _
            clear hHeld
            have HR : Hid (SetR fs x 0 (ins old k x)) := HR0.out (by omega) k HK.out
            go_wp2
            refine bodyPost_ret (v := .tuple #[.agg #[.slice ao7 (k + 1 + (old.length - k)) c7], .int .i64 0]) (by simp [results, Try.results12, go_sem, r5]) rfl ⟨⟨_, _, _, rfl, ?_, HR.out⟩, (Hu.out.bel.trans (HB5.out.mono Hu.out.bel.size)).setCell (by simp; omega) _⟩
            exact owns_but (b := w.heap.size + 1 + 1) (owns_mono HOF.out (by omega)) ((But.refl _ _).setCell _ _) (fun e => by have := (HOF.out.lt _ e).1; omega)
          · go_simp
            have own2 : (y1.alloc (.cells #[.string x.nm, .string x.tx] 38)).ownsRow u.heap.size 38 2 (.slice (some ⟨u.heap.size, 0, none⟩) 0 0) 0 [] := own1.alloc _
            have HB2 : Hid (Below u.heap.size u (y1.alloc (.cells #[.string x.nm, .string x.tx] 38))) := HB1.out.alloc HB1.out.size _
            have HQ2 : Hid (∀ j v, [Value.string x.nm, .string x.tx][j]? = some v → (y1.alloc (.cells #[.string x.nm, .string x.tx] 38)).cell? ((⟨y1.heap.size, 0, none⟩ : Addr).add j) = some v) := row2n y1 _ _ _
            have hz2y : y1.heap.size < (y1.alloc (.cells #[.string x.nm, .string x.tx] 38)).heap.size := by simp
            clear hHeld
            refine hK.out _ _ ?_ (fun hHeld => ?_)
            · ((try dsimp only); exact ⟨(HB2.out.cell (p := ⟨O, 0, none⟩) hOu).trans dO, (HB2.out.cell (p := ⟨w.heap.size + 1, 0, none⟩) hFu).trans n3, (HB2.out.cell (p := ⟨w.heap.size + 1, 1, none⟩) hFu).trans x3⟩)
            clear hK K
            try simp only [Act.put, List.setIfInBounds_toArray, List.set_cons_zero, List.set_cons_succ]
            generalize (y1.alloc (.cells #[.string x.nm, .string x.tx] 38)) = y2 at *
            refine wpAnyH_ready (rs := [5]) (by kernel_rfl) (by simp) ?_
            refine AllReadyH.cons (o := { dst := some 48, op := Op.call { callee := Callee.builtin Builtin.append, args := #[Operand.tmp 43, Operand.tmp 47], argTypes := #[27, 27] }, type := 27, pos := "l3_trees.go:61", after := #[{ on := 0, ground := Ground.data }, { on := 4, ground := Ground.data }], guard := none }) rfl (fun K hK => ?_) AllReadyH.nil
            refine step_appG rfl (.tmp 43) (.tmp 47) 27 rfl u.heap.size 38 i0 (.agg #[.string ⟨#[]⟩, .string ⟨#[]⟩]) 2 32 Try.underlying27 hi hz0 hz1 hz2 rfl (by decide) _ _ _ rfl own2 _ k cv (fileCells (old.take k)) rfl (fun h => ⟨by have := (HS0.out h).1; omega, (HS0.out h).2⟩) (by rw [fileCells_len, List.length_take, Nat.min_eq_left hk]) (fun ad h j v hv => HSB.out (HS1.out ad h j v hv) HB2.out) fileCells_one (by unfold maxLen; omega) (by omega) (by omega) ?_
            intro v5 y3 owny3 growy3
            have HB3 : Hid (Below u.heap.size u y3) := HB2.out.grown growy3 (by omega) (fun kb h => (own2.lt kb h).1)
            have HQ3 : Hid (∀ j v, [Value.string x.nm, .string x.tx][j]? = some v → y3.cell? ((⟨y1.heap.size, 0, none⟩ : Addr).add j) = some v) := fun j v hv => by
              rw [← HQ2.out j v hv]
              refine World.cell?_of_block ?_
              rw [addX]
              exact growy3.block y1.heap.size (by omega) (fun e => by have e' : some y1.heap.size = some u.heap.size := e; injection e' with e'; omega)
            have own3 : y3.ownsRow u.heap.size 38 2 v5 k (fileCells (old.take k)) := by have h := owny3; rw [Nat.zero_add, List.nil_append] at h; exact h
            obtain ⟨ao5, c5, hv5⟩ := row_form2 own3
            subst hv5
            have hz3y : u.heap.size ≤ y3.heap.size := HB3.out.size
            clear growy3 owny3
            clear hHeld
            refine hK.out _ _ ?_ (fun hHeld => ?_)
            · ((try dsimp only); exact ⟨(HB3.out.cell (p := ⟨O, 0, none⟩) hOu).trans dO, (HB3.out.cell (p := ⟨w.heap.size + 1, 0, none⟩) hFu).trans n3, (HB3.out.cell (p := ⟨w.heap.size + 1, 1, none⟩) hFu).trans x3⟩)
            clear hK K
            try simp only [Act.put, List.setIfInBounds_toArray, List.set_cons_zero, List.set_cons_succ]
            generalize y1.heap.size = q3 at *
            refine wpAnyH_ready (rs := [8]) (by kernel_rfl) (by simp) ?_
            refine AllReadyH.cons (o := { dst := some 51, op := Op.call { callee := Callee.builtin Builtin.append, args := #[Operand.tmp 48, Operand.tmp 50], argTypes := #[27, 27] }, type := 27, pos := "l3_trees.go:61", after := #[{ on := 5, ground := Ground.data }, { on := 7, ground := Ground.data }, { on := 5, ground := Ground.chain }], guard := none }) rfl (fun K hK => ?_) AllReadyH.nil
            refine step_appG rfl (.tmp 48) (.tmp 50) 27 rfl u.heap.size 38 i0 (.agg #[.string ⟨#[]⟩, .string ⟨#[]⟩]) 2 32 Try.underlying27 hi hz0 hz1 hz2 rfl (by decide) _ _ _ rfl own3 _ 1 1 [.string x.nm, .string x.tx] rfl (fun h => by cases h) rfl (fun ad h j v hv => by injection h with h; rw [← h]; exact HQ3.out j v hv) (by intro v hv; simp at hv; rcases hv with rfl | rfl <;> rfl) (by unfold maxLen; omega) (by omega) (by omega) ?_
            intro v6 y4 own4 grow4
            have HB4 : Hid (Below u.heap.size u y4) := HB3.out.grown grow4 (by omega) (fun kb h => (own3.lt kb h).1)
            have hz4y : u.heap.size ≤ y4.heap.size := HB4.out.size
            obtain ⟨ao6, c6, hv6⟩ := row_form2 own4
            subst hv6
            clear grow4
            clear hHeld
            refine hK.out _ _ ?_ (fun hHeld => ?_)
            · ((try dsimp only); exact ⟨(HB4.out.cell (p := ⟨O, 0, none⟩) hOu).trans dO, (HB4.out.cell (p := ⟨w.heap.size + 1, 0, none⟩) hFu).trans n3, (HB4.out.cell (p := ⟨w.heap.size + 1, 1, none⟩) hFu).trans x3⟩)
            clear hK K
            try simp only [Act.put, List.setIfInBounds_toArray, List.set_cons_zero, List.set_cons_succ]
            refine wpAnyH_ready (rs := [13]) (by kernel_rfl) (by simp) ?_
            refine AllReadyH.cons (o := { dst := some 56, op := Op.call { callee := Callee.builtin Builtin.append, args := #[Operand.tmp 51, Operand.tmp 55], argTypes := #[27, 27] }, type := 27, pos := "l3_trees.go:61", after := #[{ on := 8, ground := Ground.data }, { on := 12, ground := Ground.data }, { on := 8, ground := Ground.chain }], guard := none }) rfl (fun K hK => ?_) AllReadyH.nil
            refine step_appG rfl (.tmp 51) (.tmp 55) 27 rfl u.heap.size 38 i0 (.agg #[.string ⟨#[]⟩, .string ⟨#[]⟩]) 2 32 Try.underlying27 hi hz0 hz1 hz2 rfl (by decide) _ _ _ rfl own4 A2 (old.length - k) (cv - k) (fileCells (old.drop k)) rfl HS3.out (by rw [fileCells_len, List.length_drop]) (fun ad h j v hv => HSB.out (HS2.out ad h j v hv) HB4.out) fileCells_one (by unfold maxLen; omega) (by omega) (by omega) ?_
            intro v7 y5 own5 grow5
            have HB5 : Hid (Below u.heap.size u y5) := HB4.out.grown grow5 (by omega) (fun kb h => (own4.lt kb h).1)
            have hz5y : u.heap.size ≤ y5.heap.size := HB5.out.size
            obtain ⟨ao7, c7, hv7⟩ := row_form2 own5
            subst hv7
            have e1 : k + 1 + (old.length - k) = (ins old k x).length := by rw [ins_len _ _ _ hk]; omega
            have HOF : Hid (OwnF y5 u.heap.size (.slice ao7 (k + 1 + (old.length - k)) c7) (ins old k x)) := by
              have h := own5
              rw [e1] at h ⊢
              have e2 : fileCells (old.take k) ++ [Value.string x.nm, .string x.tx] ++ fileCells (old.drop k) = fileCells (ins old k x) := by unfold ins; rw [fileCells_app]; simp [fileCells]
              rw [e2] at h
              exact h
            have r5 := HSB.out r3 HB5.out
            have f5 : y5.frozen? ⟨w.heap.size + 1 + 1, 0, none⟩ = false := (HB5.out.frozen (p := ⟨w.heap.size + 1 + 1, 0, none⟩) (by show w.heap.size + 1 + 1 < u.heap.size; omega)).trans f3
            have o5 := HSB.out dO HB5.out
            have n5 := HSB.out n3 HB5.out
            have x5 := HSB.out x3 HB5.out
            clear grow5 e1
            clear hHeld
            refine hK.out _ _ ?_ (fun hHeld => ?_)
            · ((try dsimp only); exact ⟨o5, n5, x5⟩)
            clear hK K
            try simp only [Act.put, List.setIfInBounds_toArray, List.set_cons_zero, List.set_cons_succ]
            refine wpAnyH_take (i := 14) (oi := { dst := some 57, op := Op.build 29 #[(0, Operand.tmp 56)], type := 29, pos := "l3_trees.go:61", after := #[{ on := 13, ground := Ground.data }], guard := none }) (v := ?_) rfl (by kernel_rfl) (by kernel_rfl) (by kernel_rfl) (fun _ _ _ h => h) (Or.inl ⟨by rfl, ?_⟩) (by assumption) ?_
            rotate_left
            · intro wq hSw
              (try dsimp only at hSw)
              go_simp
              try with_reducible rfl
            try simp only [Act.put, List.setIfInBounds_toArray, List.set_cons_zero, List.set_cons_succ]
            refine wpAnyH_ready (rs := [15]) (by kernel_rfl) (by simp) ?_
            refine AllReadyH.cons (o := { dst := none, op := Op.store 29 (Operand.tmp 4) (Operand.tmp 57), type := 0, pos := "l3_trees.go:61", after := #[{ on := 14, ground := Ground.data }, { on := 13, ground := Ground.chain }, { on := 0, ground := Ground.phase }, { on := 1, ground := Ground.phase }, { on := 2, ground := Ground.phase }, { on := 3, ground := Ground.phase }, { on := 4, ground := Ground.phase }, { on := 5, ground := Ground.phase }, { on := 6, ground := Ground.phase }, { on := 7, ground := Ground.phase }, { on := 8, ground := Ground.phase }, { on := 9, ground := Ground.phase }, { on := 10, ground := Ground.phase }, { on := 11, ground := Ground.phase }, { on := 12, ground := Ground.phase }, { on := 13, ground := Ground.phase }, { on := 14, ground := Ground.phase }], guard := none }) rfl (fun K hK => ?_) AllReadyH.nil
            go_simp
            clear hHeld
            refine hK.out _ _ ?_ (fun hHeld => ?_)
            · ((try dsimp only); exact ⟨(World.cell?_setCell_far _ _ _ _ (by show w.heap.size + 1 + 1 ≠ O; omega)).trans o5, (World.cell?_setCell_far _ _ _ _ (by show w.heap.size + 1 + 1 ≠ w.heap.size + 1; omega)).trans n5, (World.cell?_setCell_far _ _ _ _ (by show w.heap.size + 1 + 1 ≠ w.heap.size + 1; omega)).trans x5⟩)
            clear hK K
            try simp only [Act.put, List.setIfInBounds_toArray, List.set_cons_zero, List.set_cons_succ]
            refine wpAnyH_take (i := 16) (oi := { dst := some 5, op := Op.assign (Operand.const (Value.int IntKind.i64 0)), type := 3, pos := "l3_trees.go:61", after := #[{ on := 15, ground := Ground.chain }, { on := 0, ground := Ground.phase }, { on := 1, ground := Ground.phase }, { on := 2, ground := Ground.phase }, { on := 3, ground := Ground.phase }, { on := 4, ground := Ground.phase }, { on := 5, ground := Ground.phase }, { on := 6, ground := Ground.phase }, { on := 7, ground := Ground.phase }, { on := 8, ground := Ground.phase }, { on := 9, ground := Ground.phase }, { on := 10, ground := Ground.phase }, { on := 11, ground := Ground.phase }, { on := 12, ground := Ground.phase }, { on := 13, ground := Ground.phase }, { on := 14, ground := Ground.phase }, { on := 15, ground := Ground.phase }], guard := none }) (v := ?_) rfl (by kernel_rfl) (by kernel_rfl) (by kernel_rfl) (fun _ _ _ h => h) (Or.inl ⟨by rfl, ?_⟩) (by assumption) ?_
            rotate_left
            · intro wq hSw
              (try dsimp only at hSw)
              go_simp
              try with_reducible rfl
            try simp only [Act.put, List.setIfInBounds_toArray, List.set_cons_zero, List.set_cons_succ]
            refine wpAnyH_done (by kernel_rfl) ?_ _
            clear hHeld
            have HR : Hid (SetR fs x 0 (ins old k x)) := HR0.out (by omega) k HK.out
            go_wp2
            refine bodyPost_ret (v := .tuple #[.agg #[.slice ao7 (k + 1 + (old.length - k)) c7], .int .i64 0]) (by simp [results, Try.results12, go_sem, r5]) rfl ⟨⟨_, _, _, rfl, ?_, HR.out⟩, (Hu.out.bel.trans (HB5.out.mono Hu.out.bel.size)).setCell (by simp; omega) _⟩
            exact owns_but (b := w.heap.size + 1 + 1) (owns_mono HOF.out (by omega)) ((But.refl _ _).setCell _ _) (fun e => by have := (HOF.out.lt _ e).1; omega)
        · go_simp
          have HB0 : Hid (Below u.heap.size u (u.alloc (.cells #[.string x.nm, .string x.tx] 38)).drew) := ((Below.refl _ _).alloc (Nat.le_refl _) _).drew
          have HQ0 : Hid (∀ j v, [Value.string x.nm, .string x.tx][j]? = some v → (u.alloc (.cells #[.string x.nm, .string x.tx] 38)).drew.cell? ((⟨u.heap.size, 0, none⟩ : Addr).add j) = some v) := row2d u _ _ _
          have hz0y : u.heap.size < (u.alloc (.cells #[.string x.nm, .string x.tx] 38)).drew.heap.size := by show u.heap.size < (u.alloc _).heap.size; simp
          clear hHeld
          refine hK.out _ _ ?_ (fun hHeld => ?_)
          · ((try dsimp only); exact ⟨(HB0.out.cell (p := ⟨O, 0, none⟩) hOu).trans dO, (HB0.out.cell (p := ⟨w.heap.size + 1, 0, none⟩) hFu).trans n3, (HB0.out.cell (p := ⟨w.heap.size + 1, 1, none⟩) hFu).trans x3⟩)
          clear hK K
          try simp only [Act.put, List.setIfInBounds_toArray, List.set_cons_zero, List.set_cons_succ]
          generalize (u.alloc (.cells #[.string x.nm, .string x.tx] 38)).drew = y0 at *
          refine wpAnyH_ready (rs := [0]) (by kernel_rfl) (by simp) ?_
          refine AllReadyH.cons (o := { dst := some 43, op := Op.buildSlice 27 0 #[], type := 27, pos := "l3_trees.go:61", after := #[], guard := none }) rfl (fun K hK => ?_) AllReadyH.nil
          go_simp
          have own2 : (y0.alloc (.cells #[] 38)).ownsRow u.heap.size 38 2 (.slice (some ⟨y0.heap.size, 0, none⟩) 0 0) 0 [] := World.ownsRow_made y0 #[] 0 (by omega) (Nat.zero_le _) rfl
          have HB2 : Hid (Below u.heap.size u (y0.alloc (.cells #[] 38))) := HB0.out.alloc HB0.out.size _
          have HQ2 : Hid (∀ j v, [Value.string x.nm, .string x.tx][j]? = some v → (y0.alloc (.cells #[] 38)).cell? ((⟨u.heap.size, 0, none⟩ : Addr).add j) = some v) := fun j v hv => by
            rw [← HQ0.out j v hv, addX]
            exact World.cell?_alloc_lt _ _ _ (by show u.heap.size < y0.heap.size; omega)
          have hz2y : y0.heap.size < (y0.alloc (.cells #[] 38)).heap.size := by simp
          clear hHeld
          refine hK.out _ _ ?_ (fun hHeld => ?_)
          · ((try dsimp only); exact ⟨(HB2.out.cell (p := ⟨O, 0, none⟩) hOu).trans dO, (HB2.out.cell (p := ⟨w.heap.size + 1, 0, none⟩) hFu).trans n3, (HB2.out.cell (p := ⟨w.heap.size + 1, 1, none⟩) hFu).trans x3⟩)
          clear hK K
          try simp only [Act.put, List.setIfInBounds_toArray, List.set_cons_zero, List.set_cons_succ]
          generalize (y0.alloc (.cells #[] 38)) = y2 at *
          refine wpAnyH_ready (rs := [5]) (by kernel_rfl) (by simp) ?_
          refine AllReadyH.cons (o := { dst := some 48, op := Op.call { callee := Callee.builtin Builtin.append, args := #[Operand.tmp 43, Operand.tmp 47], argTypes := #[27, 27] }, type := 27, pos := "l3_trees.go:61", after := #[{ on := 0, ground := Ground.data }, { on := 4, ground := Ground.data }], guard := none }) rfl (fun K hK => ?_) AllReadyH.nil
          refine step_appG rfl (.tmp 43) (.tmp 47) 27 rfl u.heap.size 38 i0 (.agg #[.string ⟨#[]⟩, .string ⟨#[]⟩]) 2 32 Try.underlying27 hi hz0 hz1 hz2 rfl (by decide) _ _ _ rfl own2 _ k cv (fileCells (old.take k)) rfl (fun h => ⟨by have := (HS0.out h).1; omega, (HS0.out h).2⟩) (by rw [fileCells_len, List.length_take, Nat.min_eq_left hk]) (fun ad h j v hv => HSB.out (HS1.out ad h j v hv) HB2.out) fileCells_one (by unfold maxLen; omega) (by omega) (by omega) ?_
          intro v5 y3 owny3 growy3
          have HB3 : Hid (Below u.heap.size u y3) := HB2.out.grown growy3 (by omega) (fun kb h => (own2.lt kb h).1)
          have HQ3 : Hid (∀ j v, [Value.string x.nm, .string x.tx][j]? = some v → y3.cell? ((⟨u.heap.size, 0, none⟩ : Addr).add j) = some v) := fun j v hv => by
            rw [← HQ2.out j v hv]
            refine World.cell?_of_block ?_
            rw [addX]
            exact growy3.block u.heap.size (by omega) (fun e => by have e' : some u.heap.size = some y0.heap.size := e; injection e' with e'; omega)
          have own3 : y3.ownsRow u.heap.size 38 2 v5 k (fileCells (old.take k)) := by have h := owny3; rw [Nat.zero_add, List.nil_append] at h; exact h
          obtain ⟨ao5, c5, hv5⟩ := row_form2 own3
          subst hv5
          have hz3y : u.heap.size ≤ y3.heap.size := HB3.out.size
          clear growy3 owny3
          clear hHeld
          refine hK.out _ _ ?_ (fun hHeld => ?_)
          · ((try dsimp only); exact ⟨(HB3.out.cell (p := ⟨O, 0, none⟩) hOu).trans dO, (HB3.out.cell (p := ⟨w.heap.size + 1, 0, none⟩) hFu).trans n3, (HB3.out.cell (p := ⟨w.heap.size + 1, 1, none⟩) hFu).trans x3⟩)
          clear hK K
          try simp only [Act.put, List.setIfInBounds_toArray, List.set_cons_zero, List.set_cons_succ]
          obtain ⟨q3, hq3⟩ : ∃ q3, q3 = u.heap.size := ⟨_, rfl⟩
          refine wpAnyH_ready (rs := [8]) (by kernel_rfl) (by simp) ?_
          refine AllReadyH.cons (o := { dst := some 51, op := Op.call { callee := Callee.builtin Builtin.append, args := #[Operand.tmp 48, Operand.tmp 50], argTypes := #[27, 27] }, type := 27, pos := "l3_trees.go:61", after := #[{ on := 5, ground := Ground.data }, { on := 7, ground := Ground.data }, { on := 5, ground := Ground.chain }], guard := none }) rfl (fun K hK => ?_) AllReadyH.nil
          refine step_appG rfl (.tmp 48) (.tmp 50) 27 rfl u.heap.size 38 i0 (.agg #[.string ⟨#[]⟩, .string ⟨#[]⟩]) 2 32 Try.underlying27 hi hz0 hz1 hz2 rfl (by decide) _ _ _ rfl own3 _ 1 1 [.string x.nm, .string x.tx] rfl (fun h => by cases h) rfl (fun ad h j v hv => by injection h with h; rw [← h]; exact HQ3.out j v hv) (by intro v hv; simp at hv; rcases hv with rfl | rfl <;> rfl) (by unfold maxLen; omega) (by omega) (by omega) ?_
          intro v6 y4 own4 grow4
          have HB4 : Hid (Below u.heap.size u y4) := HB3.out.grown grow4 (by omega) (fun kb h => (own3.lt kb h).1)
          have hz4y : u.heap.size ≤ y4.heap.size := HB4.out.size
          obtain ⟨ao6, c6, hv6⟩ := row_form2 own4
          subst hv6
          clear grow4
          clear hHeld
          refine hK.out _ _ ?_ (fun hHeld => ?_)
          · ((try dsimp only); exact ⟨(HB4.out.cell (p := ⟨O, 0, none⟩) hOu).trans dO, (HB4.out.cell (p := ⟨w.heap.size + 1, 0, none⟩) hFu).trans n3, (HB4.out.cell (p := ⟨w.heap.size + 1, 1, none⟩) hFu).trans x3⟩)
          clear hK K
          try simp only [Act.put, List.setIfInBounds_toArray, List.set_cons_zero, List.set_cons_succ]
          refine wpAnyH_ready (rs := [13]) (by kernel_rfl) (by simp) ?_
          refine AllReadyH.cons (o := { dst := some 56, op := Op.call { callee := Callee.builtin Builtin.append, args := #[Operand.tmp 51, Operand.tmp 55], argTypes := #[27, 27] }, type := 27, pos := "l3_trees.go:61", after := #[{ on := 8, ground := Ground.data }, { on := 12, ground := Ground.data }, { on := 8, ground := Ground.chain }], guard := none }) rfl (fun K hK => ?_) AllReadyH.nil
          refine step_appG rfl (.tmp 51) (.tmp 55) 27 rfl u.heap.size 38 i0 (.agg #[.string ⟨#[]⟩, .string ⟨#[]⟩]) 2 32 Try.underlying27 hi hz0 hz1 hz2 rfl (by decide) _ _ _ rfl own4 A2 (old.length - k) (cv - k) (fileCells (old.drop k)) rfl HS3.out (by rw [fileCells_len, List.length_drop]) (fun ad h j v hv => HSB.out (HS2.out ad h j v hv) HB4.out) fileCells_one (by unfold maxLen; omega) (by omega) (by omega) ?_
          intro v7 y5 own5 grow5
          have HB5 : Hid (Below u.heap.size u y5) := HB4.out.grown grow5 (by omega) (fun kb h => (own4.lt kb h).1)
          have hz5y : u.heap.size ≤ y5.heap.size := HB5.out.size
          obtain ⟨ao7, c7, hv7⟩ := row_form2 own5
          subst hv7
          have e1 : k + 1 + (old.length - k) = (ins old k x).length := by rw [ins_len _ _ _ hk]; omega
          have HOF : Hid (OwnF y5 u.heap.size (.slice ao7 (k + 1 + (old.length - k)) c7) (ins old k x)) := by
            have h := own5
            rw [e1] at h ⊢
            have e2 : fileCells (old.take k) ++ [Value.string x.nm, .string x.tx] ++ fileCells (old.drop k) = fileCells (ins old k x) := by unfold ins; rw [fileCells_app]; simp [fileCells]
            rw [e2] at h
            exact h
          have r5 := HSB.out r3 HB5.out
          have f5 : y5.frozen? ⟨w.heap.size + 1 + 1, 0, none⟩ = false := (HB5.out.frozen (p := ⟨w.heap.size + 1 + 1, 0, none⟩) (by show w.heap.size + 1 + 1 < u.heap.size; omega)).trans f3
          have o5 := HSB.out dO HB5.out
          have n5 := HSB.out n3 HB5.out
          have x5 := HSB.out x3 HB5.out
          clear grow5 e1
          clear hHeld
          refine hK.out _ _ ?_ (fun hHeld => ?_)
          · ((try dsimp only); exact ⟨o5, n5, x5⟩)
          clear hK K
          try simp only [Act.put, List.setIfInBounds_toArray, List.set_cons_zero, List.set_cons_succ]
          refine wpAnyH_take (i := 14) (oi := { dst := some 57, op := Op.build 29 #[(0, Operand.tmp 56)], type := 29, pos := "l3_trees.go:61", after := #[{ on := 13, ground := Ground.data }], guard := none }) (v := ?_) rfl (by kernel_rfl) (by kernel_rfl) (by kernel_rfl) (fun _ _ _ h => h) (Or.inl ⟨by rfl, ?_⟩) (by assumption) ?_
          rotate_left
          · intro wq hSw
            (try dsimp only at hSw)
            go_simp
            try with_reducible rfl
          try simp only [Act.put, List.setIfInBounds_toArray, List.set_cons_zero, List.set_cons_succ]
          refine wpAnyH_ready (rs := [15]) (by kernel_rfl) (by simp) ?_
          refine AllReadyH.cons (o := { dst := none, op := Op.store 29 (Operand.tmp 4) (Operand.tmp 57), type := 0, pos := "l3_trees.go:61", after := #[{ on := 14, ground := Ground.data }, { on := 13, ground := Ground.chain }, { on := 0, ground := Ground.phase }, { on := 1, ground := Ground.phase }, { on := 2, ground := Ground.phase }, { on := 3, ground := Ground.phase }, { on := 4, ground := Ground.phase }, { on := 5, ground := Ground.phase }, { on := 6, ground := Ground.phase }, { on := 7, ground := Ground.phase }, { on := 8, ground := Ground.phase }, { on := 9, ground := Ground.phase }, { on := 10, ground := Ground.phase }, { on := 11, ground := Ground.phase }, { on := 12, ground := Ground.phase }, { on := 13, ground := Ground.phase }, { on := 14, ground := Ground.phase }], guard := none }) rfl (fun K hK => ?_) AllReadyH.nil
          go_simp
          clear hHeld
          refine hK.out _ _ ?_ (fun hHeld => ?_)
          · ((try dsimp only); exact ⟨(World.cell?_setCell_far _ _ _ _ (by show w.heap.size + 1 + 1 ≠ O; omega)).trans o5, (World.cell?_setCell_far _ _ _ _ (by show w.heap.size + 1 + 1 ≠ w.heap.size + 1; omega)).trans n5, (World.cell?_setCell_far _ _ _ _ (by show w.heap.size + 1 + 1 ≠ w.heap.size + 1; omega)).trans x5⟩)
          clear hK K
          try simp only [Act.put, List.setIfInBounds_toArray, List.set_cons_zero, List.set_cons_succ]
          refine wpAnyH_take (i := 16) (oi := { dst := some 5, op := Op.assign (Operand.const (Value.int IntKind.i64 0)), type := 3, pos := "l3_trees.go:61", after := #[{ on := 15, ground := Ground.chain }, { on := 0, ground := Ground.phase }, { on := 1, ground := Ground.phase }, { on := 2, ground := Ground.phase }, { on := 3, ground := Ground.phase }, { on := 4, ground := Ground.phase }, { on := 5, ground := Ground.phase }, { on := 6, ground := Ground.phase }, { on := 7, ground := Ground.phase }, { on := 8, ground := Ground.phase }, { on := 9, ground := Ground.phase }, { on := 10, ground := Ground.phase }, { on := 11, ground := Ground.phase }, { on := 12, ground := Ground.phase }, { on := 13, ground := Ground.phase }, { on := 14, ground := Ground.phase }, { on := 15, ground := Ground.phase }], guard := none }) (v := ?_) rfl (by kernel_rfl) (by kernel_rfl) (by kernel_rfl) (fun _ _ _ h => h) (Or.inl ⟨by rfl, ?_⟩) (by assumption) ?_
          rotate_left
          · intro wq hSw
            (try dsimp only at hSw)
            go_simp
            try with_reducible rfl
          try simp only [Act.put, List.setIfInBounds_toArray, List.set_cons_zero, List.set_cons_succ]
          refine wpAnyH_done (by kernel_rfl) ?_ _
          clear hHeld
          have HR : Hid (SetR fs x 0 (ins old k x)) := HR0.out (by omega) k HK.out
          go_wp2
          refine bodyPost_ret (v := .tuple #[.agg #[.slice ao7 (k + 1 + (old.length - k)) c7], .int .i64 0]) (by simp [results, Try.results12, go_sem, r5]) rfl ⟨⟨_, _, _, rfl, ?_, HR.out⟩, (Hu.out.bel.trans (HB5.out.mono Hu.out.bel.size)).setCell (by simp; omega) _⟩
          exact owns_but (b := w.heap.size + 1 + 1) (owns_mono HOF.out (by omega)) ((But.refl _ _).setCell _ _) (fun e => by have := (HOF.out.lt _ e).1; omega)
      · have HL : Hid (∀ j, j < k + 1 → lt (old.getD j f2z).nm x.nm = true) := HLT.out hq
        clear HLT HKF
        go_wp2_with fail
        refine wp_region_held_drew (S := (fun u => u.cell? ⟨O, 0, none⟩ = some (.slice (some ⟨go, 0, none⟩) old.length cv) ∧ u.cell? ⟨w.heap.size + 1, 0, none⟩ = some (.string x.nm) ∧ u.cell? ⟨go, k * 2, none⟩ = some (.string y.nm))) (by kernel_rfl) ?_ (fun hHeld => ?_)
        · ((try dsimp only); go_keep)
        refine wpAnyH_take (i := 0) (oi := { dst := some 25, op := Op.move (Operand.tmp 7), type := 3, pos := "l3_trees.go:58", after := #[], guard := none }) (v := ?_) rfl (by kernel_rfl) (by kernel_rfl) (by kernel_rfl) (fun _ _ _ h => h) (Or.inl ⟨by rfl, ?_⟩) (by assumption) ?_
        rotate_left
        · intro wq hSw
          (try dsimp only at hSw)
          go_simp
          try with_reducible rfl
        try simp only [Act.put, List.setIfInBounds_toArray, List.set_cons_zero, List.set_cons_succ]
        refine wpAnyH_take (i := 1) (oi := { dst := some 26, op := Op.fieldAddr 29 (Operand.tmp 6) 0, type := 0, pos := "l3_trees.go:58", after := #[], guard := none }) (v := ?_) rfl (by kernel_rfl) (by kernel_rfl) (by kernel_rfl) (fun _ _ _ h => h) (Or.inl ⟨by rfl, ?_⟩) (by assumption) ?_
        rotate_left
        · intro wq hSw
          (try dsimp only at hSw)
          go_simp
          try with_reducible rfl
        try simp only [Act.put, List.setIfInBounds_toArray, List.set_cons_zero, List.set_cons_succ]
        refine wpAnyH_take (i := 2) (oi := { dst := some 27, op := Op.load 27 (Operand.tmp 26), type := 27, pos := "l3_trees.go:58", after := #[{ on := 1, ground := Ground.data }], guard := none }) (v := ?_) rfl (by kernel_rfl) (by kernel_rfl) (by kernel_rfl) (fun _ _ _ h => h) (Or.inl ⟨by rfl, ?_⟩) (by assumption) ?_
        rotate_left
        · intro wq hSw
          (try dsimp only at hSw)
          go_simp
          try with_reducible rfl
        try simp only [Act.put, List.setIfInBounds_toArray, List.set_cons_zero, List.set_cons_succ]
        refine wpAnyH_take (i := 3) (oi := { dst := some 28, op := Op.call { callee := Callee.builtin Builtin.len, args := #[Operand.tmp 27], argTypes := #[27] }, type := 3, pos := "l3_trees.go:58", after := #[{ on := 2, ground := Ground.data }], guard := none }) (v := ?_) rfl (by kernel_rfl) (by kernel_rfl) (by kernel_rfl) (fun _ _ _ h => h) (Or.inl ⟨by rfl, ?_⟩) (by assumption) ?_
        rotate_left
        · intro wq hSw
          (try dsimp only at hSw)
          go_simp
          try with_reducible rfl
        try simp only [Act.put, List.setIfInBounds_toArray, List.set_cons_zero, List.set_cons_succ]
        refine wpAnyH_take (i := 4) (oi := { dst := some 29, op := Op.binOp BinOp.lss 3 (Operand.tmp 25) (Operand.tmp 28) 3, type := 4, pos := "l3_trees.go:58", after := #[{ on := 0, ground := Ground.data }, { on := 3, ground := Ground.data }], guard := none }) (v := ?_) rfl (by kernel_rfl) (by kernel_rfl) (by kernel_rfl) (fun _ _ _ h => h) (Or.inl ⟨by rfl, ?_⟩) (by assumption) ?_
        rotate_left
        · intro wq hSw
          (try dsimp only at hSw)
          go_simp
          try with_reducible rfl
        try simp only [Act.put, List.setIfInBounds_toArray, List.set_cons_zero, List.set_cons_succ]
        refine wpAnyH_take (i := 5) (oi := { dst := some 30, op := Op.move (Operand.tmp 29), type := 4, pos := "l3_trees.go:58", after := #[{ on := 4, ground := Ground.data }], guard := none }) (v := ?_) rfl (by kernel_rfl) (by kernel_rfl) (by kernel_rfl) (fun _ _ _ h => h) (Or.inl ⟨by rfl, ?_⟩) (by assumption) ?_
        rotate_left
        · intro wq hSw
          (try dsimp only at hSw)
          go_simp
          try with_reducible rfl
        try simp only [Act.put, List.setIfInBounds_toArray, List.set_cons_zero, List.set_cons_succ]
        refine wpAnyH_take (i := 6) (oi := { dst := some 31, op := Op.fieldAddr 29 (Operand.tmp 6) 0, type := 0, pos := "l3_trees.go:58", after := #[{ on := 5, ground := Ground.guard }], guard := some (5, true) }) (v := ?_) rfl (by kernel_rfl) (by kernel_rfl) (by kernel_rfl) (fun _ _ _ h => h) (Or.inl ⟨by rfl, ?_⟩) (by assumption) ?_
        rotate_left
        · intro wq hSw
          (try dsimp only at hSw)
          go_simp
          try with_reducible rfl
        try simp only [Act.put, List.setIfInBounds_toArray, List.set_cons_zero, List.set_cons_succ]
        refine wpAnyH_take (i := 7) (oi := { dst := some 32, op := Op.load 27 (Operand.tmp 31), type := 27, pos := "l3_trees.go:58", after := #[{ on := 6, ground := Ground.data }, { on := 5, ground := Ground.guard }], guard := some (5, true) }) (v := ?_) rfl (by kernel_rfl) (by kernel_rfl) (by kernel_rfl) (fun _ _ _ h => h) (Or.inl ⟨by rfl, ?_⟩) (by assumption) ?_
        rotate_left
        · intro wq hSw
          (try dsimp only at hSw)
          go_simp
          try with_reducible rfl
        try simp only [Act.put, List.setIfInBounds_toArray, List.set_cons_zero, List.set_cons_succ]
        refine wpAnyH_take (i := 8) (oi := { dst := some 33, op := Op.move (Operand.tmp 7), type := 3, pos := "l3_trees.go:58", after := #[{ on := 5, ground := Ground.guard }], guard := some (5, true) }) (v := ?_) rfl (by kernel_rfl) (by kernel_rfl) (by kernel_rfl) (fun _ _ _ h => h) (Or.inl ⟨by rfl, ?_⟩) (by assumption) ?_
        rotate_left
        · intro wq hSw
          (try dsimp only at hSw)
          go_simp
          try with_reducible rfl
        try simp only [Act.put, List.setIfInBounds_toArray, List.set_cons_zero, List.set_cons_succ]
        refine wpAnyH_take (i := 9) (oi := { dst := some 34, op := Op.indexAddr 27 (Operand.tmp 32) (Operand.tmp 33), type := 0, pos := "l3_trees.go:58", after := #[{ on := 7, ground := Ground.data }, { on := 8, ground := Ground.data }, { on := 5, ground := Ground.guard }], guard := some (5, true) }) (v := ?_) rfl (by kernel_rfl) (by kernel_rfl) (by kernel_rfl) (fun _ _ _ h => h) (Or.inl ⟨by rfl, ?_⟩) (by assumption) ?_
        rotate_left
        · intro wq hSw
          (try dsimp only at hSw)
          go_simp
          try with_reducible rfl
        try simp only [Act.put, List.setIfInBounds_toArray, List.set_cons_zero, List.set_cons_succ]
        refine wpAnyH_take (i := 10) (oi := { dst := some 35, op := Op.fieldAddr 38 (Operand.tmp 34) 0, type := 0, pos := "l3_trees.go:58", after := #[{ on := 9, ground := Ground.data }, { on := 5, ground := Ground.guard }], guard := some (5, true) }) (v := ?_) rfl (by kernel_rfl) (by kernel_rfl) (by kernel_rfl) (fun _ _ _ h => h) (Or.inl ⟨by rfl, ?_⟩) (by assumption) ?_
        rotate_left
        · intro wq hSw
          (try dsimp only at hSw)
          go_simp
          try with_reducible rfl
        try simp only [Act.put, List.setIfInBounds_toArray, List.set_cons_zero, List.set_cons_succ]
        refine wpAnyH_take (i := 11) (oi := { dst := some 36, op := Op.load 9 (Operand.tmp 35), type := 9, pos := "l3_trees.go:58", after := #[{ on := 10, ground := Ground.data }, { on := 5, ground := Ground.guard }], guard := some (5, true) }) (v := ?_) rfl (by kernel_rfl) (by kernel_rfl) (by kernel_rfl) (fun _ _ _ h => h) (Or.inl ⟨by rfl, ?_⟩) (by assumption) ?_
        rotate_left
        · intro wq hSw
          (try dsimp only at hSw)
          go_simp
          try with_reducible rfl
        try simp only [Act.put, List.setIfInBounds_toArray, List.set_cons_zero, List.set_cons_succ]
        refine wpAnyH_take (i := 12) (oi := { dst := some 37, op := Op.fieldAddr 38 (Operand.tmp 3) 0, type := 0, pos := "l3_trees.go:58", after := #[{ on := 5, ground := Ground.guard }], guard := some (5, true) }) (v := ?_) rfl (by kernel_rfl) (by kernel_rfl) (by kernel_rfl) (fun _ _ _ h => h) (Or.inl ⟨by rfl, ?_⟩) (by assumption) ?_
        rotate_left
        · intro wq hSw
          (try dsimp only at hSw)
          go_simp
          try with_reducible rfl
        try simp only [Act.put, List.setIfInBounds_toArray, List.set_cons_zero, List.set_cons_succ]
        refine wpAnyH_take (i := 13) (oi := { dst := some 38, op := Op.load 9 (Operand.tmp 37), type := 9, pos := "l3_trees.go:58", after := #[{ on := 12, ground := Ground.data }, { on := 5, ground := Ground.guard }], guard := some (5, true) }) (v := ?_) rfl (by kernel_rfl) (by kernel_rfl) (by kernel_rfl) (fun _ _ _ h => h) (Or.inl ⟨by rfl, ?_⟩) (by assumption) ?_
        rotate_left
        · intro wq hSw
          (try dsimp only at hSw)
          go_simp
          try with_reducible rfl
        try simp only [Act.put, List.setIfInBounds_toArray, List.set_cons_zero, List.set_cons_succ]
        refine wpAnyH_take (i := 14) (oi := { dst := some 39, op := Op.binOp BinOp.lss 9 (Operand.tmp 36) (Operand.tmp 38) 9, type := 4, pos := "l3_trees.go:58", after := #[{ on := 11, ground := Ground.data }, { on := 13, ground := Ground.data }, { on := 5, ground := Ground.guard }], guard := some (5, true) }) (v := ?_) rfl (by kernel_rfl) (by kernel_rfl) (by kernel_rfl) (fun _ _ _ h => h) (Or.inl ⟨by rfl, ?_⟩) (by assumption) ?_
        rotate_left
        · intro wq hSw
          (try dsimp only at hSw)
          go_simp
          try with_reducible rfl
        try simp only [Act.put, List.setIfInBounds_toArray, List.set_cons_zero, List.set_cons_succ]
        refine wpAnyH_take (i := 15) (oi := { dst := some 40, op := Op.pick (Operand.tmp 30) (Operand.tmp 39) (Operand.const (Value.bool false)), type := 4, pos := "l3_trees.go:58", after := #[{ on := 5, ground := Ground.data }, { on := 14, ground := Ground.data }], guard := none }) (v := ?_) rfl (by kernel_rfl) (by kernel_rfl) (by kernel_rfl) (fun _ _ _ h => h) (Or.inl ⟨by rfl, ?_⟩) (by assumption) ?_
        rotate_left
        · intro wq hSw
          (try dsimp only at hSw)
          go_simp
          try with_reducible rfl
        try simp only [Act.put, List.setIfInBounds_toArray, List.set_cons_zero, List.set_cons_succ]
        refine wpAnyH_done (by kernel_rfl) ?_ _
        clear hHeld
        go_wp2
        go_roundw
        case rel => exact ⟨k + 1, by omega, by go_num, hbr.out.drew, HL⟩
        case measure => simp [intOf]; omega
    · have HK : Hid (KAt old x.nm k) := ⟨hk, hless.out, .inl (by omega)⟩
      have hkd : decide ((k : Int) < (old.length : Int)) = false := decide_eq_false (by omega)
      go_wp2_with fail
      refine wp_region_held_drew (S := (fun u => u.cell? ⟨O, 0, none⟩ = some (.slice av old.length cv))) (by kernel_rfl) ?_ (fun hHeld => ?_)
      · ((try dsimp only); go_keep)
      refine wpAnyH_take (i := 0) (oi := { dst := some 25, op := Op.move (Operand.tmp 7), type := 3, pos := "l3_trees.go:58", after := #[], guard := none }) (v := ?_) rfl (by kernel_rfl) (by kernel_rfl) (by kernel_rfl) (fun _ _ _ h => h) (Or.inl ⟨by rfl, ?_⟩) (by assumption) ?_
      rotate_left
      · intro wq hSw
        (try dsimp only at hSw)
        go_simp
        try with_reducible rfl
      try simp only [Act.put, List.setIfInBounds_toArray, List.set_cons_zero, List.set_cons_succ]
      refine wpAnyH_take (i := 1) (oi := { dst := some 26, op := Op.fieldAddr 29 (Operand.tmp 6) 0, type := 0, pos := "l3_trees.go:58", after := #[], guard := none }) (v := ?_) rfl (by kernel_rfl) (by kernel_rfl) (by kernel_rfl) (fun _ _ _ h => h) (Or.inl ⟨by rfl, ?_⟩) (by assumption) ?_
      rotate_left
      · intro wq hSw
        (try dsimp only at hSw)
        go_simp
        try with_reducible rfl
      try simp only [Act.put, List.setIfInBounds_toArray, List.set_cons_zero, List.set_cons_succ]
      refine wpAnyH_take (i := 2) (oi := { dst := some 27, op := Op.load 27 (Operand.tmp 26), type := 27, pos := "l3_trees.go:58", after := #[{ on := 1, ground := Ground.data }], guard := none }) (v := ?_) rfl (by kernel_rfl) (by kernel_rfl) (by kernel_rfl) (fun _ _ _ h => h) (Or.inl ⟨by rfl, ?_⟩) (by assumption) ?_
      rotate_left
      · intro wq hSw
        (try dsimp only at hSw)
        go_simp
        try with_reducible rfl
      try simp only [Act.put, List.setIfInBounds_toArray, List.set_cons_zero, List.set_cons_succ]
      refine wpAnyH_take (i := 3) (oi := { dst := some 28, op := Op.call { callee := Callee.builtin Builtin.len, args := #[Operand.tmp 27], argTypes := #[27] }, type := 3, pos := "l3_trees.go:58", after := #[{ on := 2, ground := Ground.data }], guard := none }) (v := ?_) rfl (by kernel_rfl) (by kernel_rfl) (by kernel_rfl) (fun _ _ _ h => h) (Or.inl ⟨by rfl, ?_⟩) (by assumption) ?_
      rotate_left
      · intro wq hSw
        (try dsimp only at hSw)
        go_simp
        try with_reducible rfl
      try simp only [Act.put, List.setIfInBounds_toArray, List.set_cons_zero, List.set_cons_succ]
      refine wpAnyH_take (i := 4) (oi := { dst := some 29, op := Op.binOp BinOp.lss 3 (Operand.tmp 25) (Operand.tmp 28) 3, type := 4, pos := "l3_trees.go:58", after := #[{ on := 0, ground := Ground.data }, { on := 3, ground := Ground.data }], guard := none }) (v := ?_) rfl (by kernel_rfl) (by kernel_rfl) (by kernel_rfl) (fun _ _ _ h => h) (Or.inl ⟨by rfl, ?_⟩) (by assumption) ?_
      rotate_left
      · intro wq hSw
        (try dsimp only at hSw)
        go_simp
        try with_reducible rfl
      try simp only [Act.put, List.setIfInBounds_toArray, List.set_cons_zero, List.set_cons_succ]
      refine wpAnyH_take (i := 5) (oi := { dst := some 30, op := Op.move (Operand.tmp 29), type := 4, pos := "l3_trees.go:58", after := #[{ on := 4, ground := Ground.data }], guard := none }) (v := ?_) rfl (by kernel_rfl) (by kernel_rfl) (by kernel_rfl) (fun _ _ _ h => h) (Or.inl ⟨by rfl, ?_⟩) (by assumption) ?_
      rotate_left
      · intro wq hSw
        (try dsimp only at hSw)
        go_simp
        try with_reducible rfl
      try simp only [Act.put, List.setIfInBounds_toArray, List.set_cons_zero, List.set_cons_succ]
      refine wpAnyH_take (i := 6) (oi := { dst := some 31, op := Op.fieldAddr 29 (Operand.tmp 6) 0, type := 0, pos := "l3_trees.go:58", after := #[{ on := 5, ground := Ground.guard }], guard := some (5, true) }) (v := undef) rfl (by kernel_rfl) (by kernel_rfl) (by kernel_rfl) (fun _ _ _ h => h) (Or.inr ⟨by rfl, rfl⟩) (by assumption) ?_
      try simp only [Act.put, List.setIfInBounds_toArray, List.set_cons_zero, List.set_cons_succ]
      refine wpAnyH_take (i := 7) (oi := { dst := some 32, op := Op.load 27 (Operand.tmp 31), type := 27, pos := "l3_trees.go:58", after := #[{ on := 6, ground := Ground.data }, { on := 5, ground := Ground.guard }], guard := some (5, true) }) (v := undef) rfl (by kernel_rfl) (by kernel_rfl) (by kernel_rfl) (fun _ _ _ h => h) (Or.inr ⟨by rfl, rfl⟩) (by assumption) ?_
      try simp only [Act.put, List.setIfInBounds_toArray, List.set_cons_zero, List.set_cons_succ]
      refine wpAnyH_take (i := 8) (oi := { dst := some 33, op := Op.move (Operand.tmp 7), type := 3, pos := "l3_trees.go:58", after := #[{ on := 5, ground := Ground.guard }], guard := some (5, true) }) (v := undef) rfl (by kernel_rfl) (by kernel_rfl) (by kernel_rfl) (fun _ _ _ h => h) (Or.inr ⟨by rfl, rfl⟩) (by assumption) ?_
      try simp only [Act.put, List.setIfInBounds_toArray, List.set_cons_zero, List.set_cons_succ]
      refine wpAnyH_take (i := 9) (oi := { dst := some 34, op := Op.indexAddr 27 (Operand.tmp 32) (Operand.tmp 33), type := 0, pos := "l3_trees.go:58", after := #[{ on := 7, ground := Ground.data }, { on := 8, ground := Ground.data }, { on := 5, ground := Ground.guard }], guard := some (5, true) }) (v := undef) rfl (by kernel_rfl) (by kernel_rfl) (by kernel_rfl) (fun _ _ _ h => h) (Or.inr ⟨by rfl, rfl⟩) (by assumption) ?_
      try simp only [Act.put, List.setIfInBounds_toArray, List.set_cons_zero, List.set_cons_succ]
      refine wpAnyH_take (i := 10) (oi := { dst := some 35, op := Op.fieldAddr 38 (Operand.tmp 34) 0, type := 0, pos := "l3_trees.go:58", after := #[{ on := 9, ground := Ground.data }, { on := 5, ground := Ground.guard }], guard := some (5, true) }) (v := undef) rfl (by kernel_rfl) (by kernel_rfl) (by kernel_rfl) (fun _ _ _ h => h) (Or.inr ⟨by rfl, rfl⟩) (by assumption) ?_
      try simp only [Act.put, List.setIfInBounds_toArray, List.set_cons_zero, List.set_cons_succ]
      refine wpAnyH_take (i := 11) (oi := { dst := some 36, op := Op.load 9 (Operand.tmp 35), type := 9, pos := "l3_trees.go:58", after := #[{ on := 10, ground := Ground.data }, { on := 5, ground := Ground.guard }], guard := some (5, true) }) (v := undef) rfl (by kernel_rfl) (by kernel_rfl) (by kernel_rfl) (fun _ _ _ h => h) (Or.inr ⟨by rfl, rfl⟩) (by assumption) ?_
      try simp only [Act.put, List.setIfInBounds_toArray, List.set_cons_zero, List.set_cons_succ]
      refine wpAnyH_take (i := 12) (oi := { dst := some 37, op := Op.fieldAddr 38 (Operand.tmp 3) 0, type := 0, pos := "l3_trees.go:58", after := #[{ on := 5, ground := Ground.guard }], guard := some (5, true) }) (v := undef) rfl (by kernel_rfl) (by kernel_rfl) (by kernel_rfl) (fun _ _ _ h => h) (Or.inr ⟨by rfl, rfl⟩) (by assumption) ?_
      try simp only [Act.put, List.setIfInBounds_toArray, List.set_cons_zero, List.set_cons_succ]
      refine wpAnyH_take (i := 13) (oi := { dst := some 38, op := Op.load 9 (Operand.tmp 37), type := 9, pos := "l3_trees.go:58", after := #[{ on := 12, ground := Ground.data }, { on := 5, ground := Ground.guard }], guard := some (5, true) }) (v := undef) rfl (by kernel_rfl) (by kernel_rfl) (by kernel_rfl) (fun _ _ _ h => h) (Or.inr ⟨by rfl, rfl⟩) (by assumption) ?_
      try simp only [Act.put, List.setIfInBounds_toArray, List.set_cons_zero, List.set_cons_succ]
      refine wpAnyH_take (i := 14) (oi := { dst := some 39, op := Op.binOp BinOp.lss 9 (Operand.tmp 36) (Operand.tmp 38) 9, type := 4, pos := "l3_trees.go:58", after := #[{ on := 11, ground := Ground.data }, { on := 13, ground := Ground.data }, { on := 5, ground := Ground.guard }], guard := some (5, true) }) (v := undef) rfl (by kernel_rfl) (by kernel_rfl) (by kernel_rfl) (fun _ _ _ h => h) (Or.inr ⟨by rfl, rfl⟩) (by assumption) ?_
      try simp only [Act.put, List.setIfInBounds_toArray, List.set_cons_zero, List.set_cons_succ]
      refine wpAnyH_take (i := 15) (oi := { dst := some 40, op := Op.pick (Operand.tmp 30) (Operand.tmp 39) (Operand.const (Value.bool false)), type := 4, pos := "l3_trees.go:58", after := #[{ on := 5, ground := Ground.data }, { on := 14, ground := Ground.data }], guard := none }) (v := ?_) rfl (by kernel_rfl) (by kernel_rfl) (by kernel_rfl) (fun _ _ _ h => h) (Or.inl ⟨by rfl, ?_⟩) (by assumption) ?_
      rotate_left
      · intro wq hSw
        (try dsimp only at hSw)
        go_simp
        try with_reducible rfl
      try simp only [Act.put, List.setIfInBounds_toArray, List.set_cons_zero, List.set_cons_succ]
      refine wpAnyH_done (by kernel_rfl) ?_ _
      clear hHeld
      have Hu : Hid (ThreeAt w wr.drew (.slice a fs.length cap) x (.slice none 0 0)) := Hr.out.later ((Below.refl _ _).drew)
      have HOb : Hid (BlkAt wr.drew O (.slice av old.length cv) 29) := HOr.out.later ((Below.refl _ _).drew)
      have HWu : Hid (OwnF wr.drew (u2.heap.size + 3) (.slice av old.length cv) old) := HWr.out.below ((Below.refl _ _).drew)
      clear Hr HOr HWr dOr tr nr xr rr fr HOW HO3 H3 HFO dO t3 n3 x3 r3 f3 hbr hless 
      go_wp2_with fail
      generalize wr.drew = u at *
      have dO := HOb.out.cell
      obtain ⟨t3, n3, x3, r3, f3⟩ := Hu.out.cells
      have hzu := Hu.out.sz
      have hkc : k ≤ cv := by omega
      have hkI : (k : Int) ≤ (old.length : Int) := by omega
      have hkI0 : (0 : Int) ≤ (k : Int) := by omega
      have hsrc := own_src HWu.out hk
      have HS0 : Hid (av = none → old.length = 0 ∧ cv = 0) := hsrc.1
      have HS1 : Hid (∀ ad, av = some ad → ∀ j v, (fileCells (old.take k))[j]? = some v → u.cell? (ad.add j) = some v) := hsrc.2.1
      obtain ⟨A2, hA2⟩ : ∃ A2, (if cv = k then av else Option.map (fun x => x.add (k * 2)) av) = A2 := ⟨_, rfl⟩
      have HS2 : Hid (∀ ad, A2 = some ad → ∀ j v, (fileCells (old.drop k))[j]? = some v → u.cell? (ad.add j) = some v) := by have h := hsrc.2.2.1; rw [hA2] at h; exact h
      have HS3 : Hid (A2 = none → old.length - k = 0 ∧ cv - k = 0) := fun h => by
        cases hav : av with
        | none => have := HS0.out hav; omega
        | some ad => rw [← hA2, hav] at h; by_cases hc : cv = k <;> simp [hc] at h
      clear hsrc
      have hsrcB : ∀ {ad : Addr} {v : Value}, u.cell? ad = some v → ∀ {y : World}, Below u.heap.size u y → y.cell? ad = some v := fun {ad v} h {y} hb => by
        rw [hb.cell (World.block_lt_of_cell? _ _ h)]; exact h
      have HSB : Hid (∀ {ad : Addr} {v : Value}, u.cell? ad = some v → ∀ {y : World}, Below u.heap.size u y → y.cell? ad = some v) := hsrcB
      clear hsrcB
      go_wp2_with fail
      have hOu : O < u.heap.size := HOb.out.lt
      have hFu : w.heap.size + 1 < u.heap.size := by omega
      refine wp_region_held_drew (S := (fun u => u.cell? ⟨O, 0, none⟩ = some (.slice av old.length cv) ∧ u.cell? ⟨w.heap.size + 1, 0, none⟩ = some (.string x.nm) ∧ u.cell? ⟨w.heap.size + 1, 1, none⟩ = some (.string x.tx))) (by kernel_rfl) ?_ (fun hHeld => ?_)
      · ((try dsimp only); exact ⟨dO, n3, x3⟩)
      refine wpAnyH_take (i := 1) (oi := { dst := some 44, op := Op.fieldAddr 29 (Operand.tmp 6) 0, type := 0, pos := "l3_trees.go:61", after := #[], guard := none }) (v := ?_) rfl (by kernel_rfl) (by kernel_rfl) (by kernel_rfl) (fun _ _ _ h => h) (Or.inl ⟨by rfl, ?_⟩) (by assumption) ?_
      rotate_left
      · intro wq hSw
        (try dsimp only at hSw)
        go_simp
        try with_reducible rfl
      try simp only [Act.put, List.setIfInBounds_toArray, List.set_cons_zero, List.set_cons_succ]
      refine wpAnyH_take (i := 2) (oi := { dst := some 45, op := Op.load 27 (Operand.tmp 44), type := 27, pos := "l3_trees.go:61", after := #[{ on := 1, ground := Ground.data }], guard := none }) (v := ?_) rfl (by kernel_rfl) (by kernel_rfl) (by kernel_rfl) (fun _ _ _ h => h) (Or.inl ⟨by rfl, ?_⟩) (by assumption) ?_
      rotate_left
      · intro wq hSw
        (try dsimp only at hSw)
        go_simp
        try with_reducible rfl
      try simp only [Act.put, List.setIfInBounds_toArray, List.set_cons_zero, List.set_cons_succ]
      refine wpAnyH_take (i := 3) (oi := { dst := some 46, op := Op.move (Operand.tmp 7), type := 3, pos := "l3_trees.go:61", after := #[], guard := none }) (v := ?_) rfl (by kernel_rfl) (by kernel_rfl) (by kernel_rfl) (fun _ _ _ h => h) (Or.inl ⟨by rfl, ?_⟩) (by assumption) ?_
      rotate_left
      · intro wq hSw
        (try dsimp only at hSw)
        go_simp
        try with_reducible rfl
      try simp only [Act.put, List.setIfInBounds_toArray, List.set_cons_zero, List.set_cons_succ]
      refine wpAnyH_take (i := 4) (oi := { dst := some 47, op := Op.slice 27 (Operand.tmp 45) none (some (Operand.tmp 46)) none, type := 27, pos := "l3_trees.go:61", after := #[{ on := 2, ground := Ground.data }, { on := 3, ground := Ground.data }], guard := none }) (v := ?_) rfl (by kernel_rfl) (by kernel_rfl) (by kernel_rfl) (fun _ _ _ h => h) (Or.inl ⟨by rfl, ?_⟩) (by assumption) ?_
      rotate_left
      · intro wq hSw
        (try dsimp only at hSw)
        go_simp
        try with_reducible rfl
      try simp only [Act.put, List.setIfInBounds_toArray, List.set_cons_zero, List.set_cons_succ]
      refine wpAnyH_take (i := 6) (oi := { dst := some 49, op := Op.load 38 (Operand.tmp 3), type := 38, pos := "l3_trees.go:61", after := #[], guard := none }) (v := ?_) rfl (by kernel_rfl) (by kernel_rfl) (by kernel_rfl) (fun _ _ _ h => h) (Or.inl ⟨by rfl, ?_⟩) (by assumption) ?_
      rotate_left
      · intro wq hSw
        (try dsimp only at hSw)
        go_simp
        try with_reducible rfl
      try simp only [Act.put, List.setIfInBounds_toArray, List.set_cons_zero, List.set_cons_succ]
      refine wpAnyH_take (i := 9) (oi := { dst := some 52, op := Op.fieldAddr 29 (Operand.tmp 6) 0, type := 0, pos := "l3_trees.go:61", after := #[], guard := none }) (v := ?_) rfl (by kernel_rfl) (by kernel_rfl) (by kernel_rfl) (fun _ _ _ h => h) (Or.inl ⟨by rfl, ?_⟩) (by assumption) ?_
      rotate_left
      · intro wq hSw
        (try dsimp only at hSw)
        go_simp
        try with_reducible rfl
      try simp only [Act.put, List.setIfInBounds_toArray, List.set_cons_zero, List.set_cons_succ]
      refine wpAnyH_take (i := 10) (oi := { dst := some 53, op := Op.load 27 (Operand.tmp 52), type := 27, pos := "l3_trees.go:61", after := #[{ on := 9, ground := Ground.data }], guard := none }) (v := ?_) rfl (by kernel_rfl) (by kernel_rfl) (by kernel_rfl) (fun _ _ _ h => h) (Or.inl ⟨by rfl, ?_⟩) (by assumption) ?_
      rotate_left
      · intro wq hSw
        (try dsimp only at hSw)
        go_simp
        try with_reducible rfl
      try simp only [Act.put, List.setIfInBounds_toArray, List.set_cons_zero, List.set_cons_succ]
      refine wpAnyH_take (i := 11) (oi := { dst := some 54, op := Op.move (Operand.tmp 7), type := 3, pos := "l3_trees.go:61", after := #[], guard := none }) (v := ?_) rfl (by kernel_rfl) (by kernel_rfl) (by kernel_rfl) (fun _ _ _ h => h) (Or.inl ⟨by rfl, ?_⟩) (by assumption) ?_
      rotate_left
      · intro wq hSw
        (try dsimp only at hSw)
        go_simp
        try with_reducible rfl
      try simp only [Act.put, List.setIfInBounds_toArray, List.set_cons_zero, List.set_cons_succ]
      refine wpAnyH_take (i := 12) (oi := { dst := some 55, op := Op.slice 27 (Operand.tmp 53) (some (Operand.tmp 54)) none none, type := 27, pos := "l3_trees.go:61", after := #[{ on := 10, ground := Ground.data }, { on := 11, ground := Ground.data }], guard := none }) (v := ?_) rfl (by kernel_rfl) (by kernel_rfl) (by kernel_rfl) (fun _ _ _ h => h) (Or.inl ⟨by rfl, ?_⟩) (by assumption) ?_
      rotate_left
      · intro wq hSw
        (try dsimp only at hSw)
        go_simp
        try with_reducible rfl
      try simp only [Act.put, List.setIfInBounds_toArray, List.set_cons_zero, List.set_cons_succ]
      refine wpAnyH_ready (rs := [0, 7]) (by kernel_rfl) (by simp) ?_
      refine AllReadyH.cons (o := { dst := some 43, op := Op.buildSlice 27 0 #[], type := 27, pos := "l3_trees.go:61", after := #[], guard := none }) rfl (fun K hK => ?_) (AllReadyH.cons (o := { dst := some 50, op := Op.buildSlice 27 1 #[(0, Operand.tmp 49)], type := 27, pos := "l3_trees.go:61", after := #[{ on := 6, ground := Ground.data }], guard := none }) rfl (fun K hK => ?_) AllReadyH.nil)
      · go_simp
        have own1 : (u.alloc (.cells #[] 38)).drew.ownsRow u.heap.size 38 2 (.slice (some ⟨u.heap.size, 0, none⟩) 0 0) 0 [] := (World.ownsRow_made u #[] 0 (Nat.le_refl _) (Nat.zero_le _) rfl).drew
        have HB1 : Hid (Below u.heap.size u (u.alloc (.cells #[] 38)).drew) := ((Below.refl _ _).alloc (Nat.le_refl _) _).drew
        have hz1y : u.heap.size < (u.alloc (.cells #[] 38)).drew.heap.size := by show u.heap.size < (u.alloc _).heap.size; simp
        clear hHeld
        refine hK.out _ _ ?_ (fun hHeld => ?_)
        · ((try dsimp only); exact ⟨(HB1.out.cell (p := ⟨O, 0, none⟩) hOu).trans dO, (HB1.out.cell (p := ⟨w.heap.size + 1, 0, none⟩) hFu).trans n3, (HB1.out.cell (p := ⟨w.heap.size + 1, 1, none⟩) hFu).trans x3⟩)
        clear hK K
        try simp only [Act.put, List.setIfInBounds_toArray, List.set_cons_zero, List.set_cons_succ]
        generalize (u.alloc (.cells #[] 38)).drew = y1 at *
        refine wpAnyH_ready (rs := [5, 7]) (by kernel_rfl) (by simp) ?_
        refine AllReadyH.cons (o := { dst := some 48, op := Op.call { callee := Callee.builtin Builtin.append, args := #[Operand.tmp 43, Operand.tmp 47], argTypes := #[27, 27] }, type := 27, pos := "l3_trees.go:61", after := #[{ on := 0, ground := Ground.data }, { on := 4, ground := Ground.data }], guard := none }) rfl (fun K hK => ?_) (AllReadyH.cons (o := { dst := some 50, op := Op.buildSlice 27 1 #[(0, Operand.tmp 49)], type := 27, pos := "l3_trees.go:61", after := #[{ on := 6, ground := Ground.data }], guard := none }) rfl (fun K hK => ?_) AllReadyH.nil)
        · refine step_appG rfl (.tmp 43) (.tmp 47) 27 rfl u.heap.size 38 i0 (.agg #[.string ⟨#[]⟩, .string ⟨#[]⟩]) 2 32 Try.underlying27 hi hz0 hz1 hz2 rfl (by decide) _ _ _ rfl own1 _ k cv (fileCells (old.take k)) rfl (fun h => ⟨by have := (HS0.out h).1; omega, (HS0.out h).2⟩) (by rw [fileCells_len, List.length_take, Nat.min_eq_left hk]) (fun ad h j v hv => HSB.out (HS1.out ad h j v hv) HB1.out) fileCells_one (by unfold maxLen; omega) (by omega) (by omega) ?_
          intro v5 y2 owny2 growy2
          have HB2 : Hid (Below u.heap.size u y2) := HB1.out.grown growy2 (by omega) (fun kb h => (own1.lt kb h).1)
          have ownk : y2.ownsRow u.heap.size 38 2 v5 k (fileCells (old.take k)) := by have h := owny2; rw [Nat.zero_add, List.nil_append] at h; exact h
          obtain ⟨ao5, c5, hv5⟩ := row_form2 ownk
          subst hv5
          clear growy2 owny2
          clear hHeld
          refine hK.out _ _ ?_ (fun hHeld => ?_)
          · ((try dsimp only); exact ⟨(HB2.out.cell (p := ⟨O, 0, none⟩) hOu).trans dO, (HB2.out.cell (p := ⟨w.heap.size + 1, 0, none⟩) hFu).trans n3, (HB2.out.cell (p := ⟨w.heap.size + 1, 1, none⟩) hFu).trans x3⟩)
          clear hK K
          try simp only [Act.put, List.setIfInBounds_toArray, List.set_cons_zero, List.set_cons_succ]
          refine wpAnyH_ready (rs := [7]) (by kernel_rfl) (by simp) ?_
          refine AllReadyH.cons (o := { dst := some 50, op := Op.buildSlice 27 1 #[(0, Operand.tmp 49)], type := 27, pos := "l3_trees.go:61", after := #[{ on := 6, ground := Ground.data }], guard := none }) rfl (fun K hK => ?_) AllReadyH.nil
          go_simp
          have own3 : (y2.alloc (.cells #[.string x.nm, .string x.tx] 38)).ownsRow u.heap.size 38 2 (.slice ao5 k c5) k (fileCells (old.take k)) := ownk.alloc _
          have HB3 : Hid (Below u.heap.size u (y2.alloc (.cells #[.string x.nm, .string x.tx] 38))) := HB2.out.alloc HB2.out.size _
          have HQ3 : Hid (∀ j v, [Value.string x.nm, .string x.tx][j]? = some v → (y2.alloc (.cells #[.string x.nm, .string x.tx] 38)).cell? ((⟨y2.heap.size, 0, none⟩ : Addr).add j) = some v) := row2n y2 _ _ _
          have hz3y : u.heap.size ≤ (y2.alloc (.cells #[.string x.nm, .string x.tx] 38)).heap.size := HB3.out.size
          clear hHeld
          refine hK.out _ _ ?_ (fun hHeld => ?_)
          · ((try dsimp only); exact ⟨(HB3.out.cell (p := ⟨O, 0, none⟩) hOu).trans dO, (HB3.out.cell (p := ⟨w.heap.size + 1, 0, none⟩) hFu).trans n3, (HB3.out.cell (p := ⟨w.heap.size + 1, 1, none⟩) hFu).trans x3⟩)
          clear hK K
          try simp only [Act.put, List.setIfInBounds_toArray, List.set_cons_zero, List.set_cons_succ]
          generalize (y2.alloc (.cells #[.string x.nm, .string x.tx] 38)) = y3 at *
          generalize y2.heap.size = q3 at *
          refine wpAnyH_ready (rs := [8]) (by kernel_rfl) (by simp) ?_
          refine AllReadyH.cons (o := { dst := some 51, op := Op.call { callee := Callee.builtin Builtin.append, args := #[Operand.tmp 48, Operand.tmp 50], argTypes := #[27, 27] }, type := 27, pos := "l3_trees.go:61", after := #[{ on := 5, ground := Ground.data }, { on := 7, ground := Ground.data }, { on := 5, ground := Ground.chain }], guard := none }) rfl (fun K hK => ?_) AllReadyH.nil
          refine step_appG rfl (.tmp 48) (.tmp 50) 27 rfl u.heap.size 38 i0 (.agg #[.string ⟨#[]⟩, .string ⟨#[]⟩]) 2 32 Try.underlying27 hi hz0 hz1 hz2 rfl (by decide) _ _ _ rfl own3 _ 1 1 [.string x.nm, .string x.tx] rfl (fun h => by cases h) rfl (fun ad h j v hv => by injection h with h; rw [← h]; exact HQ3.out j v hv) (by intro v hv; simp at hv; rcases hv with rfl | rfl <;> rfl) (by unfold maxLen; omega) (by omega) (by omega) ?_
          intro v6 y4 own4 grow4
          have HB4 : Hid (Below u.heap.size u y4) := HB3.out.grown grow4 (by omega) (fun kb h => (own3.lt kb h).1)
          have hz4y : u.heap.size ≤ y4.heap.size := HB4.out.size
          obtain ⟨ao6, c6, hv6⟩ := row_form2 own4
          subst hv6
          clear grow4
          clear hHeld
          refine hK.out _ _ ?_ (fun hHeld => ?_)
          · ((try dsimp only); exact ⟨(HB4.out.cell (p := ⟨O, 0, none⟩) hOu).trans dO, (HB4.out.cell (p := ⟨w.heap.size + 1, 0, none⟩) hFu).trans n3, (HB4.out.cell (p := ⟨w.heap.size + 1, 1, none⟩) hFu).trans x3⟩)
          clear hK K
          try simp only [Act.put, List.setIfInBounds_toArray, List.set_cons_zero, List.set_cons_succ]
          refine wpAnyH_ready (rs := [13]) (by kernel_rfl) (by simp) ?_
          refine AllReadyH.cons (o := { dst := some 56, op := Op.call { callee := Callee.builtin Builtin.append, args := #[Operand.tmp 51, Operand.tmp 55], argTypes := #[27, 27] }, type := 27, pos := "l3_trees.go:61", after := #[{ on := 8, ground := Ground.data }, { on := 12, ground := Ground.data }, { on := 8, ground := Ground.chain }], guard := none }) rfl (fun K hK => ?_) AllReadyH.nil
          refine step_appG rfl (.tmp 51) (.tmp 55) 27 rfl u.heap.size 38 i0 (.agg #[.string ⟨#[]⟩, .string ⟨#[]⟩]) 2 32 Try.underlying27 hi hz0 hz1 hz2 rfl (by decide) _ _ _ rfl own4 A2 (old.length - k) (cv - k) (fileCells (old.drop k)) rfl HS3.out (by rw [fileCells_len, List.length_drop]) (fun ad h j v hv => HSB.out (HS2.out ad h j v hv) HB4.out) fileCells_one (by unfold maxLen; omega) (by omega) (by omega) ?_
          intro v7 y5 own5 grow5
          have HB5 : Hid (Below u.heap.size u y5) := HB4.out.grown grow5 (by omega) (fun kb h => (own4.lt kb h).1)
          have hz5y : u.heap.size ≤ y5.heap.size := HB5.out.size
          obtain ⟨ao7, c7, hv7⟩ := row_form2 own5
          subst hv7
          have e1 : k + 1 + (old.length - k) = (ins old k x).length := by rw [ins_len _ _ _ hk]; omega
          have HOF : Hid (OwnF y5 u.heap.size (.slice ao7 (k + 1 + (old.length - k)) c7) (ins old k x)) := by
            have h := own5
            rw [e1] at h ⊢
            have e2 : fileCells (old.take k) ++ [Value.string x.nm, .string x.tx] ++ fileCells (old.drop k) = fileCells (ins old k x) := by unfold ins; rw [fileCells_app]; simp [fileCells]
            rw [e2] at h
            exact h
          have r5 := HSB.out r3 HB5.out
          have f5 : y5.frozen? ⟨w.heap.size + 1 + 1, 0, none⟩ = false := (HB5.out.frozen (p := ⟨w.heap.size + 1 + 1, 0, none⟩) (by show w.heap.size + 1 + 1 < u.heap.size; omega)).trans f3
          have o5 := HSB.out dO HB5.out
          have n5 := HSB.out n3 HB5.out
          have x5 := HSB.out x3 HB5.out
          clear grow5 e1
          clear hHeld
          refine hK.out _ _ ?_ (fun hHeld => ?_)
          · ((try dsimp only); exact ⟨o5, n5, x5⟩)
          clear hK K
          try simp only [Act.put, List.setIfInBounds_toArray, List.set_cons_zero, List.set_cons_succ]
          refine wpAnyH_take (i := 14) (oi := { dst := some 57, op := Op.build 29 #[(0, Operand.tmp 56)], type := 29, pos := "l3_trees.go:61", after := #[{ on := 13, ground := Ground.data }], guard := none }) (v := ?_) rfl (by kernel_rfl) (by kernel_rfl) (by kernel_rfl) (fun _ _ _ h => h) (Or.inl ⟨by rfl, ?_⟩) (by assumption) ?_
          rotate_left
          · intro wq hSw
            (try dsimp only at hSw)
            go_simp
            try with_reducible rfl
          try simp only [Act.put, List.setIfInBounds_toArray, List.set_cons_zero, List.set_cons_succ]
          refine wpAnyH_ready (rs := [15]) (by kernel_rfl) (by simp) ?_
          refine AllReadyH.cons (o := { dst := none, op := Op.store 29 (Operand.tmp 4) (Operand.tmp 57), type := 0, pos := "l3_trees.go:61", after := #[{ on := 14, ground := Ground.data }, { on := 13, ground := Ground.chain }, { on := 0, ground := Ground.phase }, { on := 1, ground := Ground.phase }, { on := 2, ground := Ground.phase }, { on := 3, ground := Ground.phase }, { on := 4, ground := Ground.phase }, { on := 5, ground := Ground.phase }, { on := 6, ground := Ground.phase }, { on := 7, ground := Ground.phase }, { on := 8, ground := Ground.phase }, { on := 9, ground := Ground.phase }, { on := 10, ground := Ground.phase }, { on := 11, ground := Ground.phase }, { on := 12, ground := Ground.phase }, { on := 13, ground := Ground.phase }, { on := 14, ground := Ground.phase }], guard := none }) rfl (fun K hK => ?_) AllReadyH.nil
          go_simp
          clear hHeld
          refine hK.out _ _ ?_ (fun hHeld => ?_)
          · ((try dsimp only); exact ⟨(World.cell?_setCell_far _ _ _ _ (by show w.heap.size + 1 + 1 ≠ O; omega)).trans o5, (World.cell?_setCell_far _ _ _ _ (by show w.heap.size + 1 + 1 ≠ w.heap.size + 1; omega)).trans n5, (World.cell?_setCell_far _ _ _ _ (by show w.heap.size + 1 + 1 ≠ w.heap.size + 1; omega)).trans x5⟩)
          clear hK K
          try simp only [Act.put, List.setIfInBounds_toArray, List.set_cons_zero, List.set_cons_succ]
          refine wpAnyH_take (i := 16) (oi := { dst := some 5, op := Op.assign (Operand.const (Value.int IntKind.i64 0)), type := 3, pos := "l3_trees.go:61", after := #[{ on := 15, ground := Ground.chain }, { on := 0, ground := Ground.phase }, { on := 1, ground := Ground.phase }, { on := 2, ground := Ground.phase }, { on := 3, ground := Ground.phase }, { on := 4, ground := Ground.phase }, { on := 5, ground := Ground.phase }, { on := 6, ground := Ground.phase }, { on := 7, ground := Ground.phase }, { on := 8, ground := Ground.phase }, { on := 9, ground := Ground.phase }, { on := 10, ground := Ground.phase }, { on := 11, ground := Ground.phase }, { on := 12, ground := Ground.phase }, { on := 13, ground := Ground.phase }, { on := 14, ground := Ground.phase }, { on := 15, ground := Ground.phase }], guard := none }) (v := ?_) rfl (by kernel_rfl) (by kernel_rfl) (by kernel_rfl) (fun _ _ _ h => h) (Or.inl ⟨by rfl, ?_⟩) (by assumption) ?_
          rotate_left
          · intro wq hSw
            (try dsimp only at hSw)
            go_simp
            try with_reducible rfl
          try simp only [Act.put, List.setIfInBounds_toArray, List.set_cons_zero, List.set_cons_succ]
          refine wpAnyH_done (by kernel_rfl) ?_ _
          clear hHeld
          have HR : Hid (SetR fs x 0 (ins old k x)) := HR0.out (by omega) k HK.out
          go_wp2
          refine bodyPost_ret (v := .tuple #[.agg #[.slice ao7 (k + 1 + (old.length - k)) c7], .int .i64 0]) (by simp [results, Try.results12, go_sem, r5]) rfl ⟨⟨_, _, _, rfl, ?_, HR.out⟩, (Hu.out.bel.trans (HB5.out.mono Hu.out.bel.size)).setCell (by simp; omega) _⟩
          exact owns_but (b := w.heap.size + 1 + 1) (owns_mono HOF.out (by omega)) ((But.refl _ _).setCell _ _) (fun e => by have := (HOF.out.lt _ e).1; omega)
        · go_simp
          have own2 : (y1.alloc (.cells #[.string x.nm, .string x.tx] 38)).ownsRow u.heap.size 38 2 (.slice (some ⟨u.heap.size, 0, none⟩) 0 0) 0 [] := own1.alloc _
          have HB2 : Hid (Below u.heap.size u (y1.alloc (.cells #[.string x.nm, .string x.tx] 38))) := HB1.out.alloc HB1.out.size _
          have HQ2 : Hid (∀ j v, [Value.string x.nm, .string x.tx][j]? = some v → (y1.alloc (.cells #[.string x.nm, .string x.tx] 38)).cell? ((⟨y1.heap.size, 0, none⟩ : Addr).add j) = some v) := row2n y1 _ _ _
          have hz2y : y1.heap.size < (y1.alloc (.cells #[.string x.nm, .string x.tx] 38)).heap.size := by simp
          clear hHeld
          refine hK.out _ _ ?_ (fun hHeld => ?_)
          · ((try dsimp only); exact ⟨(HB2.out.cell (p := ⟨O, 0, none⟩) hOu).trans dO, (HB2.out.cell (p := ⟨w.heap.size + 1, 0, none⟩) hFu).trans n3, (HB2.out.cell (p := ⟨w.heap.size + 1, 1, none⟩) hFu).trans x3⟩)
          clear hK K
          try simp only [Act.put, List.setIfInBounds_toArray, List.set_cons_zero, List.set_cons_succ]
          generalize (y1.alloc (.cells #[.string x.nm, .string x.tx] 38)) = y2 at *
          refine wpAnyH_ready (rs := [5]) (by kernel_rfl) (by simp) ?_
          refine AllReadyH.cons (o := { dst := some 48, op := Op.call { callee := Callee.builtin Builtin.append, args := #[Operand.tmp 43, Operand.tmp 47], argTypes := #[27, 27] }, type := 27, pos := "l3_trees.go:61", after := #[{ on := 0, ground := Ground.data }, { on := 4, ground := Ground.data }], guard := none }) rfl (fun K hK => ?_) AllReadyH.nil
          refine step_appG rfl (.tmp 43) (.tmp 47) 27 rfl u.heap.size 38 i0 (.agg #[.string ⟨#[]⟩, .string ⟨#[]⟩]) 2 32 Try.underlying27 hi hz0 hz1 hz2 rfl (by decide) _ _ _ rfl own2 _ k cv (fileCells (old.take k)) rfl (fun h => ⟨by have := (HS0.out h).1; omega, (HS0.out h).2⟩) (by rw [fileCells_len, List.length_take, Nat.min_eq_left hk]) (fun ad h j v hv => HSB.out (HS1.out ad h j v hv) HB2.out) fileCells_one (by unfold maxLen; omega) (by omega) (by omega) ?_
          intro v5 y3 owny3 growy3
          have HB3 : Hid (Below u.heap.size u y3) := HB2.out.grown growy3 (by omega) (fun kb h => (own2.lt kb h).1)
          have HQ3 : Hid (∀ j v, [Value.string x.nm, .string x.tx][j]? = some v → y3.cell? ((⟨y1.heap.size, 0, none⟩ : Addr).add j) = some v) := fun j v hv => by
            rw [← HQ2.out j v hv]
            refine World.cell?_of_block ?_
            rw [addX]
            exact growy3.block y1.heap.size (by omega) (fun e => by have e' : some y1.heap.size = some u.heap.size := e; injection e' with e'; omega)
          have own3 : y3.ownsRow u.heap.size 38 2 v5 k (fileCells (old.take k)) := by have h := owny3; rw [Nat.zero_add, List.nil_append] at h; exact h
          obtain ⟨ao5, c5, hv5⟩ := row_form2 own3
          subst hv5
          have hz3y : u.heap.size ≤ y3.heap.size := HB3.out.size
          clear growy3 owny3
          clear hHeld
          refine hK.out _ _ ?_ (fun hHeld => ?_)
          · ((try dsimp only); exact ⟨(HB3.out.cell (p := ⟨O, 0, none⟩) hOu).trans dO, (HB3.out.cell (p := ⟨w.heap.size + 1, 0, none⟩) hFu).trans n3, (HB3.out.cell (p := ⟨w.heap.size + 1, 1, none⟩) hFu).trans x3⟩)
          clear hK K
          try simp only [Act.put, List.setIfInBounds_toArray, List.set_cons_zero, List.set_cons_succ]
          generalize y1.heap.size = q3 at *
          refine wpAnyH_ready (rs := [8]) (by kernel_rfl) (by simp) ?_
          refine AllReadyH.cons (o := { dst := some 51, op := Op.call { callee := Callee.builtin Builtin.append, args := #[Operand.tmp 48, Operand.tmp 50], argTypes := #[27, 27] }, type := 27, pos := "l3_trees.go:61", after := #[{ on := 5, ground := Ground.data }, { on := 7, ground := Ground.data }, { on := 5, ground := Ground.chain }], guard := none }) rfl (fun K hK => ?_) AllReadyH.nil
          refine step_appG rfl (.tmp 48) (.tmp 50) 27 rfl u.heap.size 38 i0 (.agg #[.string ⟨#[]⟩, .string ⟨#[]⟩]) 2 32 Try.underlying27 hi hz0 hz1 hz2 rfl (by decide) _ _ _ rfl own3 _ 1 1 [.string x.nm, .string x.tx] rfl (fun h => by cases h) rfl (fun ad h j v hv => by injection h with h; rw [← h]; exact HQ3.out j v hv) (by intro v hv; simp at hv; rcases hv with rfl | rfl <;> rfl) (by unfold maxLen; omega) (by omega) (by omega) ?_
          intro v6 y4 own4 grow4
          have HB4 : Hid (Below u.heap.size u y4) := HB3.out.grown grow4 (by omega) (fun kb h => (own3.lt kb h).1)
          have hz4y : u.heap.size ≤ y4.heap.size := HB4.out.size
          obtain ⟨ao6, c6, hv6⟩ := row_form2 own4
          subst hv6
          clear grow4
          clear hHeld
          refine hK.out _ _ ?_ (fun hHeld => ?_)
          · ((try dsimp only); exact ⟨(HB4.out.cell (p := ⟨O, 0, none⟩) hOu).trans dO, (HB4.out.cell (p := ⟨w.heap.size + 1, 0, none⟩) hFu).trans n3, (HB4.out.cell (p := ⟨w.heap.size + 1, 1, none⟩) hFu).trans x3⟩)
          clear hK K
          try simp only [Act.put, List.setIfInBounds_toArray, List.set_cons_zero, List.set_cons_succ]
          refine wpAnyH_ready (rs := [13]) (by kernel_rfl) (by simp) ?_
          refine AllReadyH.cons (o := { dst := some 56, op := Op.call { callee := Callee.builtin Builtin.append, args := #[Operand.tmp 51, Operand.tmp 55], argTypes := #[27, 27] }, type := 27, pos := "l3_trees.go:61", after := #[{ on := 8, ground := Ground.data }, { on := 12, ground := Ground.data }, { on := 8, ground := Ground.chain }], guard := none }) rfl (fun K hK => ?_) AllReadyH.nil
          refine step_appG rfl (.tmp 51) (.tmp 55) 27 rfl u.heap.size 38 i0 (.agg #[.string ⟨#[]⟩, .string ⟨#[]⟩]) 2 32 Try.underlying27 hi hz0 hz1 hz2 rfl (by decide) _ _ _ rfl own4 A2 (old.length - k) (cv - k) (fileCells (old.drop k)) rfl HS3.out (by rw [fileCells_len, List.length_drop]) (fun ad h j v hv => HSB.out (HS2.out ad h j v hv) HB4.out) fileCells_one (by unfold maxLen; omega) (by omega) (by omega) ?_
          intro v7 y5 own5 grow5
          have HB5 : Hid (Below u.heap.size u y5) := HB4.out.grown grow5 (by omega) (fun kb h => (own4.lt kb h).1)
          have hz5y : u.heap.size ≤ y5.heap.size := HB5.out.size
          obtain ⟨ao7, c7, hv7⟩ := row_form2 own5
          subst hv7
          have e1 : k + 1 + (old.length - k) = (ins old k x).length := by rw [ins_len _ _ _ hk]; omega
          have HOF : Hid (OwnF y5 u.heap.size (.slice ao7 (k + 1 + (old.length - k)) c7) (ins old k x)) := by
            have h := own5
            rw [e1] at h ⊢
            have e2 : fileCells (old.take k) ++ [Value.string x.nm, .string x.tx] ++ fileCells (old.drop k) = fileCells (ins old k x) := by unfold ins; rw [fileCells_app]; simp [fileCells]
            rw [e2] at h
            exact h
          have r5 := HSB.out r3 HB5.out
          have f5 : y5.frozen? ⟨w.heap.size + 1 + 1, 0, none⟩ = false := (HB5.out.frozen (p := ⟨w.heap.size + 1 + 1, 0, none⟩) (by show w.heap.size + 1 + 1 < u.heap.size; omega)).trans f3
          have o5 := HSB.out dO HB5.out
          have n5 := HSB.out n3 HB5.out
          have x5 := HSB.out x3 HB5.out
          clear grow5 e1
          clear hHeld
          refine hK.out _ _ ?_ (fun hHeld => ?_)
          · ((try dsimp only); exact ⟨o5, n5, x5⟩)
          clear hK K
          try simp only [Act.put, List.setIfInBounds_toArray, List.set_cons_zero, List.set_cons_succ]
          refine wpAnyH_take (i := 14) (oi := { dst := some 57, op := Op.build 29 #[(0, Operand.tmp 56)], type := 29, pos := "l3_trees.go:61", after := #[{ on := 13, ground := Ground.data }], guard := none }) (v := ?_) rfl (by kernel_rfl) (by kernel_rfl) (by kernel_rfl) (fun _ _ _ h => h) (Or.inl ⟨by rfl, ?_⟩) (by assumption) ?_
          rotate_left
          · intro wq hSw
            (try dsimp only at hSw)
            go_simp
            try with_reducible rfl
          try simp only [Act.put, List.setIfInBounds_toArray, List.set_cons_zero, List.set_cons_succ]
          refine wpAnyH_ready (rs := [15]) (by kernel_rfl) (by simp) ?_
          refine AllReadyH.cons (o := { dst := none, op := Op.store 29 (Operand.tmp 4) (Operand.tmp 57), type := 0, pos := "l3_trees.go:61", after := #[{ on := 14, ground := Ground.data }, { on := 13, ground := Ground.chain }, { on := 0, ground := Ground.phase }, { on := 1, ground := Ground.phase }, { on := 2, ground := Ground.phase }, { on := 3, ground := Ground.phase }, { on := 4, ground := Ground.phase }, { on := 5, ground := Ground.phase }, { on := 6, ground := Ground.phase }, { on := 7, ground := Ground.phase }, { on := 8, ground := Ground.phase }, { on := 9, ground := Ground.phase }, { on := 10, ground := Ground.phase }, { on := 11, ground := Ground.phase }, { on := 12, ground := Ground.phase }, { on := 13, ground := Ground.phase }, { on := 14, ground := Ground.phase }], guard := none }) rfl (fun K hK => ?_) AllReadyH.nil
          go_simp
          clear hHeld
          refine hK.out _ _ ?_ (fun hHeld => ?_)
          · ((try dsimp only); exact ⟨(World.cell?_setCell_far _ _ _ _ (by show w.heap.size + 1 + 1 ≠ O; omega)).trans o5, (World.cell?_setCell_far _ _ _ _ (by show w.heap.size + 1 + 1 ≠ w.heap.size + 1; omega)).trans n5, (World.cell?_setCell_far _ _ _ _ (by show w.heap.size + 1 + 1 ≠ w.heap.size + 1; omega)).trans x5⟩)
          clear hK K
          try simp only [Act.put, List.setIfInBounds_toArray, List.set_cons_zero, List.set_cons_succ]
          refine wpAnyH_take (i := 16) (oi := { dst := some 5, op := Op.assign (Operand.const (Value.int IntKind.i64 0)), type := 3, pos := "l3_trees.go:61", after := #[{ on := 15, ground := Ground.chain }, { on := 0, ground := Ground.phase }, { on := 1, ground := Ground.phase }, { on := 2, ground := Ground.phase }, { on := 3, ground := Ground.phase }, { on := 4, ground := Ground.phase }, { on := 5, ground := Ground.phase }, { on := 6, ground := Ground.phase }, { on := 7, ground := Ground.phase }, { on := 8, ground := Ground.phase }, { on := 9, ground := Ground.phase }, { on := 10, ground := Ground.phase }, { on := 11, ground := Ground.phase }, { on := 12, ground := Ground.phase }, { on := 13, ground := Ground.phase }, { on := 14, ground := Ground.phase }, { on := 15, ground := Ground.phase }], guard := none }) (v := ?_) rfl (by kernel_rfl) (by kernel_rfl) (by kernel_rfl) (fun _ _ _ h => h) (Or.inl ⟨by rfl, ?_⟩) (by assumption) ?_
          rotate_left
          · intro wq hSw
            (try dsimp only at hSw)
            go_simp
            try with_reducible rfl
          try simp only [Act.put, List.setIfInBounds_toArray, List.set_cons_zero, List.set_cons_succ]
          refine wpAnyH_done (by kernel_rfl) ?_ _
          clear hHeld
          have HR : Hid (SetR fs x 0 (ins old k x)) := HR0.out (by omega) k HK.out
          go_wp2
          refine bodyPost_ret (v := .tuple #[.agg #[.slice ao7 (k + 1 + (old.length - k)) c7], .int .i64 0]) (by simp [results, Try.results12, go_sem, r5]) rfl ⟨⟨_, _, _, rfl, ?_, HR.out⟩, (Hu.out.bel.trans (HB5.out.mono Hu.out.bel.size)).setCell (by simp; omega) _⟩
          exact owns_but (b := w.heap.size + 1 + 1) (owns_mono HOF.out (by omega)) ((But.refl _ _).setCell _ _) (fun e => by have := (HOF.out.lt _ e).1; omega)
      · go_simp
        have HB0 : Hid (Below u.heap.size u (u.alloc (.cells #[.string x.nm, .string x.tx] 38)).drew) := ((Below.refl _ _).alloc (Nat.le_refl _) _).drew
        have HQ0 : Hid (∀ j v, [Value.string x.nm, .string x.tx][j]? = some v → (u.alloc (.cells #[.string x.nm, .string x.tx] 38)).drew.cell? ((⟨u.heap.size, 0, none⟩ : Addr).add j) = some v) := row2d u _ _ _
        have hz0y : u.heap.size < (u.alloc (.cells #[.string x.nm, .string x.tx] 38)).drew.heap.size := by show u.heap.size < (u.alloc _).heap.size; simp
        clear hHeld
        refine hK.out _ _ ?_ (fun hHeld => ?_)
        · ((try dsimp only); exact ⟨(HB0.out.cell (p := ⟨O, 0, none⟩) hOu).trans dO, (HB0.out.cell (p := ⟨w.heap.size + 1, 0, none⟩) hFu).trans n3, (HB0.out.cell (p := ⟨w.heap.size + 1, 1, none⟩) hFu).trans x3⟩)
        clear hK K
        try simp only [Act.put, List.setIfInBounds_toArray, List.set_cons_zero, List.set_cons_succ]
        generalize (u.alloc (.cells #[.string x.nm, .string x.tx] 38)).drew = y0 at *
        refine wpAnyH_ready (rs := [0]) (by kernel_rfl) (by simp) ?_
        refine AllReadyH.cons (o := { dst := some 43, op := Op.buildSlice 27 0 #[], type := 27, pos := "l3_trees.go:61", after := #[], guard := none }) rfl (fun K hK => ?_) AllReadyH.nil
        go_simp
        have own2 : (y0.alloc (.cells #[] 38)).ownsRow u.heap.size 38 2 (.slice (some ⟨y0.heap.size, 0, none⟩) 0 0) 0 [] := World.ownsRow_made y0 #[] 0 (by omega) (Nat.zero_le _) rfl
        have HB2 : Hid (Below u.heap.size u (y0.alloc (.cells #[] 38))) := HB0.out.alloc HB0.out.size _
        have HQ2 : Hid (∀ j v, [Value.string x.nm, .string x.tx][j]? = some v → (y0.alloc (.cells #[] 38)).cell? ((⟨u.heap.size, 0, none⟩ : Addr).add j) = some v) := fun j v hv => by
          rw [← HQ0.out j v hv, addX]
          exact World.cell?_alloc_lt _ _ _ (by show u.heap.size < y0.heap.size; omega)
        have hz2y : y0.heap.size < (y0.alloc (.cells #[] 38)).heap.size := by simp
        clear hHeld
        refine hK.out _ _ ?_ (fun hHeld => ?_)
        · ((try dsimp only); exact ⟨(HB2.out.cell (p := ⟨O, 0, none⟩) hOu).trans dO, (HB2.out.cell (p := ⟨w.heap.size + 1, 0, none⟩) hFu).trans n3, (HB2.out.cell (p := ⟨w.heap.size + 1, 1, none⟩) hFu).trans x3⟩)
        clear hK K
        try simp only [Act.put, List.setIfInBounds_toArray, List.set_cons_zero, List.set_cons_succ]
        generalize (y0.alloc (.cells #[] 38)) = y2 at *
        refine wpAnyH_ready (rs := [5]) (by kernel_rfl) (by simp) ?_
        refine AllReadyH.cons (o := { dst := some 48, op := Op.call { callee := Callee.builtin Builtin.append, args := #[Operand.tmp 43, Operand.tmp 47], argTypes := #[27, 27] }, type := 27, pos := "l3_trees.go:61", after := #[{ on := 0, ground := Ground.data }, { on := 4, ground := Ground.data }], guard := none }) rfl (fun K hK => ?_) AllReadyH.nil
        refine step_appG rfl (.tmp 43) (.tmp 47) 27 rfl u.heap.size 38 i0 (.agg #[.string ⟨#[]⟩, .string ⟨#[]⟩]) 2 32 Try.underlying27 hi hz0 hz1 hz2 rfl (by decide) _ _ _ rfl own2 _ k cv (fileCells (old.take k)) rfl (fun h => ⟨by have := (HS0.out h).1; omega, (HS0.out h).2⟩) (by rw [fileCells_len, List.length_take, Nat.min_eq_left hk]) (fun ad h j v hv => HSB.out (HS1.out ad h j v hv) HB2.out) fileCells_one (by unfold maxLen; omega) (by omega) (by omega) ?_
        intro v5 y3 owny3 growy3
        have HB3 : Hid (Below u.heap.size u y3) := HB2.out.grown growy3 (by omega) (fun kb h => (own2.lt kb h).1)
        have HQ3 : Hid (∀ j v, [Value.string x.nm, .string x.tx][j]? = some v → y3.cell? ((⟨u.heap.size, 0, none⟩ : Addr).add j) = some v) := fun j v hv => by
          rw [← HQ2.out j v hv]
          refine World.cell?_of_block ?_
          rw [addX]
          exact growy3.block u.heap.size (by omega) (fun e => by have e' : some u.heap.size = some y0.heap.size := e; injection e' with e'; omega)
        have own3 : y3.ownsRow u.heap.size 38 2 v5 k (fileCells (old.take k)) := by have h := owny3; rw [Nat.zero_add, List.nil_append] at h; exact h
        obtain ⟨ao5, c5, hv5⟩ := row_form2 own3
        subst hv5
        have hz3y : u.heap.size ≤ y3.heap.size := HB3.out.size
        clear growy3 owny3
        clear hHeld
        refine hK.out _ _ ?_ (fun hHeld => ?_)
        · ((try dsimp only); exact ⟨(HB3.out.cell (p := ⟨O, 0, none⟩) hOu).trans dO, (HB3.out.cell (p := ⟨w.heap.size + 1, 0, none⟩) hFu).trans n3, (HB3.out.cell (p := ⟨w.heap.size + 1, 1, none⟩) hFu).trans x3⟩)
        clear hK K
        try simp only [Act.put, List.setIfInBounds_toArray, List.set_cons_zero, List.set_cons_succ]
        obtain ⟨q3, hq3⟩ : ∃ q3, q3 = u.heap.size := ⟨_, rfl⟩
        refine wpAnyH_ready (rs := [8]) (by kernel_rfl) (by simp) ?_
        refine AllReadyH.cons (o := { dst := some 51, op := Op.call { callee := Callee.builtin Builtin.append, args := #[Operand.tmp 48, Operand.tmp 50], argTypes := #[27, 27] }, type := 27, pos := "l3_trees.go:61", after := #[{ on := 5, ground := Ground.data }, { on := 7, ground := Ground.data }, { on := 5, ground := Ground.chain }], guard := none }) rfl (fun K hK => ?_) AllReadyH.nil
        refine step_appG rfl (.tmp 48) (.tmp 50) 27 rfl u.heap.size 38 i0 (.agg #[.string ⟨#[]⟩, .string ⟨#[]⟩]) 2 32 Try.underlying27 hi hz0 hz1 hz2 rfl (by decide) _ _ _ rfl own3 _ 1 1 [.string x.nm, .string x.tx] rfl (fun h => by cases h) rfl (fun ad h j v hv => by injection h with h; rw [← h]; exact HQ3.out j v hv) (by intro v hv; simp at hv; rcases hv with rfl | rfl <;> rfl) (by unfold maxLen; omega) (by omega) (by omega) ?_
        intro v6 y4 own4 grow4
        have HB4 : Hid (Below u.heap.size u y4) := HB3.out.grown grow4 (by omega) (fun kb h => (own3.lt kb h).1)
        have hz4y : u.heap.size ≤ y4.heap.size := HB4.out.size
        obtain ⟨ao6, c6, hv6⟩ := row_form2 own4
        subst hv6
        clear grow4
        clear hHeld
        refine hK.out _ _ ?_ (fun hHeld => ?_)
        · ((try dsimp only); exact ⟨(HB4.out.cell (p := ⟨O, 0, none⟩) hOu).trans dO, (HB4.out.cell (p := ⟨w.heap.size + 1, 0, none⟩) hFu).trans n3, (HB4.out.cell (p := ⟨w.heap.size + 1, 1, none⟩) hFu).trans x3⟩)
        clear hK K
        try simp only [Act.put, List.setIfInBounds_toArray, List.set_cons_zero, List.set_cons_succ]
        refine wpAnyH_ready (rs := [13]) (by kernel_rfl) (by simp) ?_
        refine AllReadyH.cons (o := { dst := some 56, op := Op.call { callee := Callee.builtin Builtin.append, args := #[Operand.tmp 51, Operand.tmp 55], argTypes := #[27, 27] }, type := 27, pos := "l3_trees.go:61", after := #[{ on := 8, ground := Ground.data }, { on := 12, ground := Ground.data }, { on := 8, ground := Ground.chain }], guard := none }) rfl (fun K hK => ?_) AllReadyH.nil
        refine step_appG rfl (.tmp 51) (.tmp 55) 27 rfl u.heap.size 38 i0 (.agg #[.string ⟨#[]⟩, .string ⟨#[]⟩]) 2 32 Try.underlying27 hi hz0 hz1 hz2 rfl (by decide) _ _ _ rfl own4 A2 (old.length - k) (cv - k) (fileCells (old.drop k)) rfl HS3.out (by rw [fileCells_len, List.length_drop]) (fun ad h j v hv => HSB.out (HS2.out ad h j v hv) HB4.out) fileCells_one (by unfold maxLen; omega) (by omega) (by omega) ?_
        intro v7 y5 own5 grow5
        have HB5 : Hid (Below u.heap.size u y5) := HB4.out.grown grow5 (by omega) (fun kb h => (own4.lt kb h).1)
        have hz5y : u.heap.size ≤ y5.heap.size := HB5.out.size
        obtain ⟨ao7, c7, hv7⟩ := row_form2 own5
        subst hv7
        have e1 : k + 1 + (old.length - k) = (ins old k x).length := by rw [ins_len _ _ _ hk]; omega
        have HOF : Hid (OwnF y5 u.heap.size (.slice ao7 (k + 1 + (old.length - k)) c7) (ins old k x)) := by
          have h := own5
          rw [e1] at h ⊢
          have e2 : fileCells (old.take k) ++ [Value.string x.nm, .string x.tx] ++ fileCells (old.drop k) = fileCells (ins old k x) := by unfold ins; rw [fileCells_app]; simp [fileCells]
          rw [e2] at h
          exact h
        have r5 := HSB.out r3 HB5.out
        have f5 : y5.frozen? ⟨w.heap.size + 1 + 1, 0, none⟩ = false := (HB5.out.frozen (p := ⟨w.heap.size + 1 + 1, 0, none⟩) (by show w.heap.size + 1 + 1 < u.heap.size; omega)).trans f3
        have o5 := HSB.out dO HB5.out
        have n5 := HSB.out n3 HB5.out
        have x5 := HSB.out x3 HB5.out
        clear grow5 e1
        clear hHeld
        refine hK.out _ _ ?_ (fun hHeld => ?_)
        · ((try dsimp only); exact ⟨o5, n5, x5⟩)
        clear hK K
        try simp only [Act.put, List.setIfInBounds_toArray, List.set_cons_zero, List.set_cons_succ]
        refine wpAnyH_take (i := 14) (oi := { dst := some 57, op := Op.build 29 #[(0, Operand.tmp 56)], type := 29, pos := "l3_trees.go:61", after := #[{ on := 13, ground := Ground.data }], guard := none }) (v := ?_) rfl (by kernel_rfl) (by kernel_rfl) (by kernel_rfl) (fun _ _ _ h => h) (Or.inl ⟨by rfl, ?_⟩) (by assumption) ?_
        rotate_left
        · intro wq hSw
          (try dsimp only at hSw)
          go_simp
          try with_reducible rfl
        try simp only [Act.put, List.setIfInBounds_toArray, List.set_cons_zero, List.set_cons_succ]
        refine wpAnyH_ready (rs := [15]) (by kernel_rfl) (by simp) ?_
        refine AllReadyH.cons (o := { dst := none, op := Op.store 29 (Operand.tmp 4) (Operand.tmp 57), type := 0, pos := "l3_trees.go:61", after := #[{ on := 14, ground := Ground.data }, { on := 13, ground := Ground.chain }, { on := 0, ground := Ground.phase }, { on := 1, ground := Ground.phase }, { on := 2, ground := Ground.phase }, { on := 3, ground := Ground.phase }, { on := 4, ground := Ground.phase }, { on := 5, ground := Ground.phase }, { on := 6, ground := Ground.phase }, { on := 7, ground := Ground.phase }, { on := 8, ground := Ground.phase }, { on := 9, ground := Ground.phase }, { on := 10, ground := Ground.phase }, { on := 11, ground := Ground.phase }, { on := 12, ground := Ground.phase }, { on := 13, ground := Ground.phase }, { on := 14, ground := Ground.phase }], guard := none }) rfl (fun K hK => ?_) AllReadyH.nil
        go_simp
        clear hHeld
        refine hK.out _ _ ?_ (fun hHeld => ?_)
        · ((try dsimp only); exact ⟨(World.cell?_setCell_far _ _ _ _ (by show w.heap.size + 1 + 1 ≠ O; omega)).trans o5, (World.cell?_setCell_far _ _ _ _ (by show w.heap.size + 1 + 1 ≠ w.heap.size + 1; omega)).trans n5, (World.cell?_setCell_far _ _ _ _ (by show w.heap.size + 1 + 1 ≠ w.heap.size + 1; omega)).trans x5⟩)
        clear hK K
        try simp only [Act.put, List.setIfInBounds_toArray, List.set_cons_zero, List.set_cons_succ]
        refine wpAnyH_take (i := 16) (oi := { dst := some 5, op := Op.assign (Operand.const (Value.int IntKind.i64 0)), type := 3, pos := "l3_trees.go:61", after := #[{ on := 15, ground := Ground.chain }, { on := 0, ground := Ground.phase }, { on := 1, ground := Ground.phase }, { on := 2, ground := Ground.phase }, { on := 3, ground := Ground.phase }, { on := 4, ground := Ground.phase }, { on := 5, ground := Ground.phase }, { on := 6, ground := Ground.phase }, { on := 7, ground := Ground.phase }, { on := 8, ground := Ground.phase }, { on := 9, ground := Ground.phase }, { on := 10, ground := Ground.phase }, { on := 11, ground := Ground.phase }, { on := 12, ground := Ground.phase }, { on := 13, ground := Ground.phase }, { on := 14, ground := Ground.phase }, { on := 15, ground := Ground.phase }], guard := none }) (v := ?_) rfl (by kernel_rfl) (by kernel_rfl) (by kernel_rfl) (fun _ _ _ h => h) (Or.inl ⟨by rfl, ?_⟩) (by assumption) ?_
        rotate_left
        · intro wq hSw
          (try dsimp only at hSw)
          go_simp
          try with_reducible rfl
        try simp only [Act.put, List.setIfInBounds_toArray, List.set_cons_zero, List.set_cons_succ]
        refine wpAnyH_done (by kernel_rfl) ?_ _
        clear hHeld
        have HR : Hid (SetR fs x 0 (ins old k x)) := HR0.out (by omega) k HK.out
        go_wp2
        refine bodyPost_ret (v := .tuple #[.agg #[.slice ao7 (k + 1 + (old.length - k)) c7], .int .i64 0]) (by simp [results, Try.results12, go_sem, r5]) rfl ⟨⟨_, _, _, rfl, ?_, HR.out⟩, (Hu.out.bel.trans (HB5.out.mono Hu.out.bel.size)).setCell (by simp; omega) _⟩
        exact owns_but (b := w.heap.size + 1 + 1) (owns_mono HOF.out (by omega)) ((But.refl _ _).setCell _ _) (fun e => by have := (HOF.out.lt _ e).1; omega)
end Go.Proofs.Ytolihfbnbkaflaa
