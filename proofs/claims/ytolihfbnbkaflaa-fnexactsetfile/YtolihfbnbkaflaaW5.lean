import Derived.Test.YtolihfbnbkaflaaW4
import Derived.Laws.IdiomCopy
import Derived.Lib.SliceRun
namespace Go.Proofs.Ytolihfbnbkaflaa
open Go.RowKit
set_option linter.unusedSimpArgs false
theorem But.setCells (b : Nat) : ∀ (vs : List Value) (o : Nat) {w w' : World}, But b w w' → But b w (w'.setCells b o vs)
  | [], _, _, _, h => h
  | v :: vs, o, _, _, h => But.setCells b vs (o + 1) (h.setCell o v)
theorem But.drew {b : Nat} {w w' : World} (h : But b w w') : But b w w'.drew := ⟨h.os, h.tape, h.output, h.size, h.block⟩
/-- clear of one file -/
theorem run_clear2 (w : World) (ty : TypeId) (b o c : Nat) (h0 : (w.cell? ⟨b, o, none⟩).isSome = true) (h1 : (w.cell? ⟨b, o + 1, none⟩).isSome = true) (hf : ∀ j, w.frozen? ⟨b, j, none⟩ = false) :
    (Builtin.clear_ #[27] ty #[.slice (some ⟨b, o, none⟩) 1 c]).run Try.prog w = .ok (.tuple #[]) (w.setCells b o [.string ⟨#[]⟩, .string ⟨#[]⟩]) := by
  have hzc : (Builtin.zeroCells (Value.agg #[.string ⟨#[]⟩, .string ⟨#[]⟩]).cells 1).toList = [.string ⟨#[]⟩, .string ⟨#[]⟩] := by kernel_rfl
  have hst := run_storeCells_cells (P := Try.prog) b o [.string ⟨#[]⟩, .string ⟨#[]⟩] 0 w (fun j hj => by
    match j, hj with
    | 0, _ => exact h0
    | 1, _ => exact h1) (fun j _ => hf _) (by intro v hv; simp at hv; rw [hv]; rfl)
  simp only [Nat.add_zero] at hst
  simp [Builtin.clear_, run_underlying Try.underlying27, hzc, hst]
/-- One file taken out. -/
def del (fs : List F2) (p : Nat) : List F2 := fs.take p ++ fs.drop (p + 1)
theorem del_len {fs : List F2} {p : Nat} (h : p < fs.length) : (del fs p).length = fs.length - 1 := by unfold del; rw [List.length_append, List.length_take, List.length_drop]; omega
theorem del_lo {fs : List F2} {p i : Nat} (h : p < fs.length) (hi : i < p) : (del fs p).getD i f2z = fs.getD i f2z := by
  unfold del
  simp only [List.getD]
  rw [List.getElem?_append_left (by rw [List.length_take]; omega), List.getElem?_take_of_lt hi]
theorem del_hi {fs : List F2} {p i : Nat} (h : p < fs.length) (hi : p ≤ i) : (del fs p).getD i f2z = (fs.drop (p + 1)).getD (i - p) f2z := by
  unfold del
  simp only [List.getD]
  rw [List.getElem?_append_right (by rw [List.length_take]; omega), List.length_take, Nat.min_eq_left (by omega)]
theorem drop_getD (fs : List F2) (n i : Nat) : (fs.drop n).getD i f2z = fs.getD (n + i) f2z := by simp [List.getD, List.getElem?_drop]
theorem isSome_setCells (b : Nat) : ∀ (vs : List Value) (o : Nat) (w : World) (x : Addr), (w.cell? x).isSome = true → ((w.setCells b o vs).cell? x).isSome = true
  | [], _, _, _, h => h
  | v :: vs, o, w, x, h => isSome_setCells b vs (o + 1) _ x (by
    obtain ⟨y, hy⟩ := Option.isSome_iff_exists.1 h
    obtain ⟨z, hz⟩ := cell?_setCell_some (w := w) (p := ⟨b, o, none⟩) (x := v) hy
    rw [hz]; rfl)

set_option maxHeartbeats 2000000 in
set_option maxRecDepth 100000 in
theorem c31 (g cap : Nat) (fs : List F2) (p : Nat) (w : World) (hl : fs.length ≤ 40) (hp : p < fs.length) (hc : fs.length ≤ cap) (hg : g < w.heap.size) (hat : ∀ i, i < fs.length → w.cell? ⟨g, i * 2, none⟩ = some (.string (fs.getD i f2z).nm) ∧ w.cell? ⟨g, i * 2 + 1, none⟩ = some (.string (fs.getD i f2z).tx)) (hfz : ∀ j, w.frozen? ⟨g, j, none⟩ = false) :
    Calls Try.prog 31 #[.slice (some ⟨g, 0, none⟩) fs.length cap, .int .i64 p, .int .i64 ((p : Int) + 1)] w fun e w' => e = .returned (.slice (some ⟨g, 0, none⟩) (fs.length - 1) cap) ∧ FilesAt w' (some ⟨g, 0, none⟩) (del fs p) ∧ Open2 w' g (fs.length - 1) ∧ But g w w' := by
  obtain ⟨i0, hi, hz0, hz1, hz2⟩ := info_parts info38
  have hne : ((p : Int) == (p : Int) + 1) = false := beq_eq_false_iff_ne.2 (by omega)
  have hpc : p ≤ cap := by omega
  have hp0 : (0 : Int) ≤ (p : Int) + 1 := by omega
  have hp1 : (p : Int) + 1 ≤ (fs.length : Int) := by omega
  obtain ⟨A, hA, HA⟩ : ∃ A : Addr, (if cap = p + 1 then some (⟨g, 0, none⟩ : Addr) else some ⟨g, (p + 1) * 2, none⟩) = some A ∧ Hid (∀ j u, (fileCells (fs.drop (p + 1)))[j]? = some u → w.drew.cell? (A.add j) = some u) := by
    by_cases h : cap = p + 1
    · refine ⟨_, by rw [if_pos h], fun j u hu => ?_⟩
      have h0 : fs.drop (p + 1) = [] := List.drop_eq_nil_of_le (by omega)
      rw [h0] at hu
      simp [fileCells] at hu
    · refine ⟨_, by rw [if_neg h], fun j u hu => ?_⟩
      refine files_cells (w := w.drew) (fs := fs.drop (p + 1)) (b := g) (off := (p + 1) * 2) (fun i hi => ?_) j u hu
      rw [List.length_drop] at hi
      have := hat (p + 1 + i) (by omega)
      rw [drop_getD, show (p + 1) * 2 + i * 2 = (p + 1 + i) * 2 by omega]
      exact this
  have hcellS : ∀ j, j < fs.length * 2 → (w.cell? ⟨g, j, none⟩).isSome = true := fun j hj => by
    have := hat (j / 2) (by omega)
    rcases Nat.mod_two_eq_zero_or_one j with h | h
    · rw [show j = j / 2 * 2 by omega, this.1]; rfl
    · rw [show j = j / 2 * 2 + 1 by omega, this.2]; rfl
  have HSP : Hid (∀ j, j < (fileCells (fs.drop (p + 1))).length → (w.drew.cell? ⟨g, 0 + p * 2 + j, none⟩).isSome = true ∧ w.drew.frozen? ⟨g, 0 + p * 2 + j, none⟩ = false) := fun j hj => by
    rw [fileCells_len, List.length_drop] at hj
    exact ⟨hcellS _ (by omega), hfz _⟩
  have HAT : Hid (∀ i, i < fs.length → w.cell? ⟨g, i * 2, none⟩ = some (.string (fs.getD i f2z).nm) ∧ w.cell? ⟨g, i * 2 + 1, none⟩ = some (.string (fs.getD i f2z).tx)) := hat
  have HFZ : Hid (∀ j, w.frozen? ⟨g, j, none⟩ = false) := hfz
  have HCS : Hid (∀ j, j < fs.length * 2 → (w.cell? ⟨g, j, none⟩).isSome = true) := hcellS
  clear hat hfz hcellS
  go_enter Try.func31, Try.ntmps31
  go_wp2_with fail
  refine wp_region_held_drew (S := (fun _ => True)) (by kernel_rfl) ?_ (fun hHeld => ?_)
  · ((try dsimp only); (try trivial))
  refine wpAnyH_take (i := 0) (oi := { dst := some 20, op := Op.move (Operand.tmp 0), type := 27, pos := "slices.go:232", after := #[], guard := none }) (v := ?_) rfl (by kernel_rfl) (by kernel_rfl) (by kernel_rfl) (fun _ _ _ h => h) (Or.inl ⟨by rfl, ?_⟩) (by assumption) ?_
  rotate_left
  · intro wq hSw
    (try dsimp only at hSw)
    go_simp
    try with_reducible rfl
  try simp only [Act.put, List.setIfInBounds_toArray, List.set_cons_zero, List.set_cons_succ]
  refine wpAnyH_take (i := 1) (oi := { dst := some 21, op := Op.move (Operand.tmp 1), type := 3, pos := "slices.go:232", after := #[], guard := none }) (v := ?_) rfl (by kernel_rfl) (by kernel_rfl) (by kernel_rfl) (fun _ _ _ h => h) (Or.inl ⟨by rfl, ?_⟩) (by assumption) ?_
  rotate_left
  · intro wq hSw
    (try dsimp only at hSw)
    go_simp
    try with_reducible rfl
  try simp only [Act.put, List.setIfInBounds_toArray, List.set_cons_zero, List.set_cons_succ]
  refine wpAnyH_take (i := 2) (oi := { dst := some 22, op := Op.slice 27 (Operand.tmp 20) none (some (Operand.tmp 21)) none, type := 27, pos := "slices.go:232", after := #[{ on := 0, ground := Ground.data }, { on := 1, ground := Ground.data }], guard := none }) (v := ?_) rfl (by kernel_rfl) (by kernel_rfl) (by kernel_rfl) (fun _ _ _ h => h) (Or.inl ⟨by rfl, ?_⟩) (by assumption) ?_
  rotate_left
  · intro wq hSw
    (try dsimp only at hSw)
    go_simp
    try with_reducible rfl
  try simp only [Act.put, List.setIfInBounds_toArray, List.set_cons_zero, List.set_cons_succ]
  refine wpAnyH_take (i := 3) (oi := { dst := some 23, op := Op.move (Operand.tmp 0), type := 27, pos := "slices.go:232", after := #[], guard := none }) (v := ?_) rfl (by kernel_rfl) (by kernel_rfl) (by kernel_rfl) (fun _ _ _ h => h) (Or.inl ⟨by rfl, ?_⟩) (by assumption) ?_
  rotate_left
  · intro wq hSw
    (try dsimp only at hSw)
    go_simp
    try with_reducible rfl
  try simp only [Act.put, List.setIfInBounds_toArray, List.set_cons_zero, List.set_cons_succ]
  refine wpAnyH_take (i := 4) (oi := { dst := some 24, op := Op.move (Operand.tmp 2), type := 3, pos := "slices.go:232", after := #[], guard := none }) (v := ?_) rfl (by kernel_rfl) (by kernel_rfl) (by kernel_rfl) (fun _ _ _ h => h) (Or.inl ⟨by rfl, ?_⟩) (by assumption) ?_
  rotate_left
  · intro wq hSw
    (try dsimp only at hSw)
    go_simp
    try with_reducible rfl
  try simp only [Act.put, List.setIfInBounds_toArray, List.set_cons_zero, List.set_cons_succ]
  refine wpAnyH_take (i := 5) (oi := { dst := some 25, op := Op.slice 27 (Operand.tmp 23) (some (Operand.tmp 24)) none none, type := 27, pos := "slices.go:232", after := #[{ on := 3, ground := Ground.data }, { on := 4, ground := Ground.data }], guard := none }) (v := ?_) rfl (by kernel_rfl) (by kernel_rfl) (by kernel_rfl) (fun _ _ _ h => h) (Or.inl ⟨by rfl, ?_⟩) (by assumption) ?_
  rotate_left
  · intro wq hSw
    (try dsimp only at hSw)
    go_simp
    try with_reducible rfl
  try simp only [Act.put, List.setIfInBounds_toArray, List.set_cons_zero, List.set_cons_succ]
  refine wpAnyH_ready (rs := [6]) (by kernel_rfl) (by simp) ?_
  refine AllReadyH.cons (o := { dst := some 26, op := Op.call { callee := Callee.builtin Builtin.append, args := #[Operand.tmp 22, Operand.tmp 25], argTypes := #[27, 27] }, type := 27, pos := "slices.go:232", after := #[{ on := 2, ground := Ground.data }, { on := 5, ground := Ground.data }], guard := none }) rfl (fun K hK => ?_) AllReadyH.nil
  refine step_append_room rfl (.tmp 22) (.tmp 25) 27 rfl 38 i0 2 Try.underlying27 hi hz1 g 0 p cap rfl A (fs.length - (p + 1)) (cap - (p + 1)) (fileCells (fs.drop (p + 1))) rfl (by rw [fileCells_len, List.length_drop]) HA.out fileCells_one (by omega) HSP.out ?_
  clear hHeld
  refine hK.out _ _ ?_ (fun hHeld => ?_)
  · trivial
  clear hK K
  try simp only [Act.put, List.setIfInBounds_toArray, List.set_cons_zero, List.set_cons_succ]
  refine wpAnyH_take (i := 7) (oi := { dst := some 0, op := Op.assign (Operand.tmp 26), type := 27, pos := "slices.go:232", after := #[{ on := 6, ground := Ground.data }, { on := 6, ground := Ground.chain }, { on := 0, ground := Ground.phase }, { on := 1, ground := Ground.phase }, { on := 2, ground := Ground.phase }, { on := 3, ground := Ground.phase }, { on := 4, ground := Ground.phase }, { on := 5, ground := Ground.phase }, { on := 6, ground := Ground.phase }], guard := none }) (v := ?_) rfl (by kernel_rfl) (by kernel_rfl) (by kernel_rfl) (fun _ _ _ h => h) (Or.inl ⟨by rfl, ?_⟩) (by assumption) ?_
  rotate_left
  · intro wq hSw
    (try dsimp only at hSw)
    go_simp
    try with_reducible rfl
  try simp only [Act.put, List.setIfInBounds_toArray, List.set_cons_zero, List.set_cons_succ]
  refine wpAnyH_done (by kernel_rfl) ?_ _
  have hD : (fileCells (fs.drop (p + 1))).length = (fs.length - (p + 1)) * 2 := by rw [fileCells_len, List.length_drop]
  have W1S : ∀ j, j < fs.length * 2 → ((w.drew.setCells g (0 + p * 2) (fileCells (fs.drop (p + 1)))).cell? ⟨g, j, none⟩).isSome = true := fun j hj => isSome_setCells g _ _ _ _ (HCS.out j hj)
  have W1F : ∀ j, (w.drew.setCells g (0 + p * 2) (fileCells (fs.drop (p + 1)))).frozen? ⟨g, j, none⟩ = false := fun j => (World.frozen?_setCells g _ _ _ _).trans (HFZ.out j)
  have W1lo : ∀ j, j < p * 2 → (w.drew.setCells g (0 + p * 2) (fileCells (fs.drop (p + 1)))).cell? ⟨g, j, none⟩ = w.cell? ⟨g, j, none⟩ := fun j hj => World.cell?_setCells_out g _ _ _ _ (fun _ _ => .inl (by show j < 0 + p * 2; omega))
  have W1hi : ∀ j, j < (fs.length - (p + 1)) * 2 → (w.drew.setCells g (0 + p * 2) (fileCells (fs.drop (p + 1)))).cell? ⟨g, p * 2 + j, none⟩ = (fileCells (fs.drop (p + 1)))[j]? := fun j hj => by
    have := World.cell?_setCells_in g (fileCells (fs.drop (p + 1))) (0 + p * 2) w.drew (fun i hi => (HSP.out i hi).1) j (by rw [hD]; exact hj)
    rw [Nat.zero_add] at this ⊢
    rw [this, List.getElem?_eq_getElem (by rw [hD]; exact hj)]
  have W1B : But g w (w.drew.setCells g (0 + p * 2) (fileCells (fs.drop (p + 1)))) := But.setCells g _ _ (But.refl _ _).drew
  have HLO : Hid (∀ j, j < p * 2 → (w.drew.setCells g (0 + p * 2) (fileCells (fs.drop (p + 1)))).cell? ⟨g, j, none⟩ = w.cell? ⟨g, j, none⟩) := W1lo
  have HHI : Hid (∀ j, j < (fs.length - (p + 1)) * 2 → (w.drew.setCells g (0 + p * 2) (fileCells (fs.drop (p + 1)))).cell? ⟨g, p * 2 + j, none⟩ = (fileCells (fs.drop (p + 1)))[j]?) := W1hi
  have HWS : Hid (∀ j, j < fs.length * 2 → ((w.drew.setCells g (0 + p * 2) (fileCells (fs.drop (p + 1)))).cell? ⟨g, j, none⟩).isSome = true) := W1S
  have HWF : Hid (∀ j, (w.drew.setCells g (0 + p * 2) (fileCells (fs.drop (p + 1)))).frozen? ⟨g, j, none⟩ = false) := W1F
  have HWB : Hid (But g w (w.drew.setCells g (0 + p * 2) (fileCells (fs.drop (p + 1))))) := W1B
  clear W1S W1F W1lo W1hi W1B hD HSP HA hHeld
  generalize w.drew.setCells g (0 + p * 2) (fileCells (fs.drop (p + 1))) = W1 at *
  have hq : p + (fs.length - (p + 1)) = fs.length - 1 := by omega
  have hq1 : fs.length - (fs.length - 1) = 1 := by omega
  have hq2 : fs.length - 1 ≤ fs.length := by omega
  have hq3 : (p : Int) + ((fs.length - (p + 1) : Nat) : Int) = ((fs.length - 1 : Nat) : Int) := by omega
  have hcl : ∀ ty c, (Builtin.clear_ #[27] ty #[.slice (some ⟨g, (fs.length - 1) * 2, none⟩) 1 c]).run Try.prog W1 = .ok (.tuple #[]) (W1.setCells g ((fs.length - 1) * 2) [.string ⟨#[]⟩, .string ⟨#[]⟩]) := fun ty c =>
    run_clear2 W1 ty g _ c (HWS.out _ (by omega)) (HWS.out _ (by omega)) HWF.out
  rw [hq]
  go_wp2
  have hLo : ∀ j, j < (fs.length - 1) * 2 → (W1.setCells g ((fs.length - 1) * 2) [.string ⟨#[]⟩, .string ⟨#[]⟩]).cell? ⟨g, j, none⟩ = W1.cell? ⟨g, j, none⟩ := fun j hj => World.cell?_setCells_out g _ _ _ _ (fun _ _ => .inl (by show j < (fs.length - 1) * 2; omega))
  have hsz : g < (W1.setCells g ((fs.length - 1) * 2) [.string ⟨#[]⟩, .string ⟨#[]⟩]).heap.size := Nat.lt_of_lt_of_le hg (But.setCells g _ _ HWB.out).size
  go_ret
  refine ⟨rfl, .inr ⟨g, 0, rfl, hsz, fun i hi => ?_⟩, ⟨hsz, fun j hj => ?_, fun j => (World.frozen?_setCells g _ _ _ _).trans (HWF.out j)⟩, But.setCells g _ _ HWB.out⟩
  · rw [del_len hp] at hi
    rw [Nat.zero_add, hLo _ (by omega), hLo _ (by omega)]
    rcases Nat.lt_or_ge i p with h | h
    · rw [HLO.out _ (by omega), HLO.out _ (by omega), del_lo hp h]
      exact HAT.out i (by omega)
    · obtain ⟨e0, e1⟩ := fileCells_get (fs.drop (p + 1)) (i - p) (by rw [List.length_drop]; omega)
      have h0 := HHI.out ((i - p) * 2) (by omega)
      have h1 := HHI.out ((i - p) * 2 + 1) (by omega)
      rw [show p * 2 + (i - p) * 2 = i * 2 by omega, e0] at h0
      rw [show p * 2 + ((i - p) * 2 + 1) = i * 2 + 1 by omega, e1] at h1
      rw [del_hi hp h]
      exact ⟨h0, h1⟩
  · exact Option.isSome_iff_exists.1 (isSome_setCells g _ _ _ _ (HWS.out j (by omega)))
end Go.Proofs.Ytolihfbnbkaflaa
