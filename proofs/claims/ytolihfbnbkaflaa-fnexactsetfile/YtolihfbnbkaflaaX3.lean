import Derived.Test.YtolihfbnbkaflaaX2
import Derived.Lib.Overlaps
import Derived.Lib.AppendZerosOnto
namespace Go.Proofs.Ytolihfbnbkaflaa
set_option linter.unusedSimpArgs false
open Go.RowKit
theorem run_copy2 (w : World) (ty : TypeId) (b o dLen dCap : Nat) (a : Addr) (sLen sCap n : Nat) (cs : List Value) (hn : Nat.min sLen dLen = n) (hl : cs.length = n * 2)
    (hsrc : ∀ j v, cs[j]? = some v → w.cell? (a.add j) = some v) (hc : ∀ j, j < cs.length → (w.cell? ⟨b, o + j, none⟩).isSome = true) (hf : ∀ j, w.frozen? ⟨b, j, none⟩ = false) (h1 : ∀ v ∈ cs, v.oneCell' = true) :
    (Builtin.copy_ #[27, 27] ty #[.slice (some ⟨b, o, none⟩) dLen dCap, .slice (some a) sLen sCap]).run Try.prog w = .ok (goInt n) (w.setCells b o cs) := by
  obtain ⟨i0, hi, hz0, hz1, hz2⟩ := info_parts info38
  have hfc := run_firstCells_some (P := Try.prog) w 2 n a sLen sCap cs hl hsrc
  have hst := run_storeCells_cells (P := Try.prog) b o cs 0 w (by simpa using hc) (fun j _ => hf _) h1
  simp [Builtin.copy_, run_underlying Try.underlying27, Builtin.lenOf, sizeOf, typeInfo, hi, hz1, hn, hfc, hst]
theorem wpList_copy_runI (w : World) {P : Program} {ops : Array Oper} {rest : List Oper} {o : Oper} {a : Act} {Q : Exit → Act → World → Prop} (hgd : o.guard = none) (d s : Operand) (t t' : TypeId)
    (ho : o.op = .call { callee := .builtin .copy, args := #[d, s], argTypes := #[t, t'] }) (v u : Value) (hd : a.eval d = v) (hs : a.eval s = u) {v' : Value} {w' : World}
    (hr : (Builtin.copy_ #[t, t'] o.type #[v, u]).run P w = .ok v' w') (h : wpList P ops Q rest (a.put o.dst v') w') : wpList P ops Q (o :: rest) a w :=
  wpList_plain hgd fun K hK => by
    unfold Oper.wp execOp
    simp only [ho, resolve, invoke, builtin, Sem.run_bind, Sem.run_pure, Result.andThen_ok, List.map_toArray, List.map_cons, List.map_nil, hd, hs, hr]
    exact hK _ _ h
theorem step_copy_runI {P : Program} {ops : Array Oper} {o : Oper} {a : Act} {w : World} {K : Act → World → Prop} {Q : Exit → Act → World → Prop} {E : Prop}
    (hg : o.guard = none) (d x : Operand) (dT sT : TypeId) (hop : o.op = Op.call { callee := Callee.builtin Builtin.copy, args := #[d, x], argTypes := #[dT, sT] })
    (v u : Value) (hd : a.eval d = v) (hx : a.eval x = u) {v' : Value} {w' : World} (hr : (Builtin.copy_ #[dT, sT] o.type #[v, u]).run P w = .ok v' w') (hK : K (a.put o.dst v') w') :
    if Region.wanted o (yielded ops a.tmps) = true then Oper.wp P o a w K Q else E := by
  have hw : Region.wanted o (yielded ops a.tmps) = true := by simp [Region.wanted, hg]
  rw [if_pos hw]
  unfold Oper.wp
  simp [execOp, hop, resolve, invoke, builtin, hd, hx, hr, Result.andThen]
  exact hK
theorem size38 : ∀ w, (sizeOf 38).run Try.prog w = .ok 2 w := fun w => by
  obtain ⟨i0, hi, hz0, hz1, hz2⟩ := info_parts info38
  simp [sizeOf, typeInfo, hi, hz1]
set_option maxHeartbeats 4000000 in
set_option maxRecDepth 100000 in
/-- Insert where there is room, not at the end. -/
theorem c27s (b c i vb : Nat) (fs : List F2) (x : F2) (w : World) (hi : i < fs.length) (hl : fs.length ≤ 40) (hroom : fs.length + 1 ≤ c) (hvb : vb ≠ b)
    (hcs : ∀ j v, (fileCells fs)[j]? = some v → w.cell? ⟨b, 0 + j, none⟩ = some v) (hsp : ∀ j, j < (fs.length + 1) * 2 → (w.cell? ⟨b, j, none⟩).isSome = true) (hfz : ∀ j, w.frozen? ⟨b, j, none⟩ = false)
    (hvs : ∀ j v, [Value.string x.nm, .string x.tx][j]? = some v → w.cell? ⟨vb, 0 + j, none⟩ = some v)
    (tA tB : TypeId) (kA kB : Nat) (hsa : w.shape? vb = some (tA, kA)) (hsb : w.shape? b = some (tB, kB)) (hkB : kB ≠ 0) (hfa : ∀ j, w.frozen? ⟨vb, j, none⟩ = false) :
    Calls Try.prog 27 #[.slice (some ⟨b, 0, none⟩) fs.length c, .int .i64 i, .slice (some ⟨vb, 0, none⟩) 1 1] w fun e w' =>
      e = .returned (.slice (some ⟨b, 0, none⟩) (fs.length + 1) c) ∧ w' = (w.drew.setCells b ((i + 1) * 2) (fileCells (fs.drop i))).setCells b (i * 2) [.string x.nm, .string x.tx] := by
  have hz2 : ¬ ((i : Int) = (fs.length : Int)) := by omega
  have hov : ∀ lb cb, (callFunc 38 #[.slice (some ⟨vb, 0, none⟩) 1 1, .slice (some ⟨b, (i + 1) * 2, none⟩) lb cb]).run Try.prog w = .ok (.value (.bool false)) w := fun lb cb => by
    rw [run_callFunc_extern Try.func38 (by kernel_rfl) (by kernel_rfl) (by kernel_rfl) (e := Extern.SlicesOverlaps.overlaps #[27, 27] #[4]) (by kernel_rfl),
      Lib.run_overlaps_apart w 27 4 38 Try.underlying27 2 size38 ⟨vb, 0, none⟩ ⟨b, (i + 1) * 2, none⟩ 1 1 lb cb hvb tA tB kA kB hsa hsb hkB (hfa _) (hfa _)]
    rfl
  have hdl : (fileCells (fs.drop i)).length = (fs.length - i) * 2 := by rw [fileCells_len, List.length_drop]
  have hw1 : IntKind.i64.wrap ((i : Int) + 1) = (i : Int) + 1 := by rw [show (i : Int) + 1 = ((i + 1 : Nat) : Int) by omega]; exact wrap_nat (i + 1) (by omega)
  have hb1 : (0 : Int) ≤ (i : Int) + 1 := by omega
  have hb6 : (i : Int) + 1 ≤ (fs.length : Int) + 1 := by omega
  have hin : i ≤ fs.length := by omega
  have htn : ((i : Int) + 1).toNat = i + 1 := by omega
  have hb2 : ¬ (c = i + 1) := by omega
  have hb3 : (i : Int) ≤ (fs.length : Int) + 1 := by omega
  have hb4 : ¬ (c = i) := by omega
  have hb5 : ¬ (c < fs.length + 1) := by omega
  have hcp1 : ∀ ty dc sc, (Builtin.copy_ #[27, 27] ty #[.slice (some ⟨b, (i + 1) * 2, none⟩) (fs.length - i) dc, .slice (some ⟨b, i * 2, none⟩) (fs.length + 1 - i) sc]).run Try.prog w.drew = .ok (goInt ((fs.length - i : Nat))) (w.drew.setCells b ((i + 1) * 2) (fileCells (fs.drop i))) := fun ty dc sc =>
    run_copy2 w.drew ty b ((i + 1) * 2) (fs.length - i) dc ⟨b, i * 2, none⟩ (fs.length + 1 - i) sc (fs.length - i) _ (by simp only [Nat.min_def]; split <;> omega) hdl
      (fun j v hj => by
        rw [addX]
        have hj' : (fileCells fs)[i * 2 + j]? = some v := by
          have e : fileCells fs = fileCells (fs.take i) ++ fileCells (fs.drop i) := by rw [← fileCells_app, List.take_append_drop]
          rw [e, List.getElem?_append_right (by rw [fileCells_len, List.length_take]; omega), fileCells_len, List.length_take, Nat.min_eq_left (by omega), Nat.add_sub_cancel_left]
          exact hj
        have := hcs _ _ hj'
        rw [Nat.zero_add] at this
        exact this)
      (fun j hj => hsp _ (by rw [hdl] at hj; omega)) hfz fileCells_one
  obtain ⟨W1, hW1⟩ : ∃ W1, W1 = w.drew.setCells b ((i + 1) * 2) (fileCells (fs.drop i)) := ⟨_, rfl⟩
  have hsp1 : ∀ k, k < (fs.length + 1) * 2 → (W1.cell? ⟨b, k, none⟩).isSome = true := fun k hk => by
    rw [hW1]; exact isSome_setCells b _ _ _ _ (hsp k hk)
  have hcp2 : ∀ (W : World), (∀ x, W.cell? x = W1.cell? x) → (∀ x, W.frozen? x = W1.frozen? x) → ∀ ty dc, (Builtin.copy_ #[27, 27] ty #[.slice (some ⟨b, i * 2, none⟩) (fs.length + 1 - i) dc, .slice (some ⟨vb, 0, none⟩) 1 1]).run Try.prog W = .ok (goInt 1) (W.setCells b (i * 2) [.string x.nm, .string x.tx]) := fun W hWc hWf ty dc =>
    run_copy2 W ty b (i * 2) (fs.length + 1 - i) dc ⟨vb, 0, none⟩ 1 1 1 [.string x.nm, .string x.tx] (by simp only [Nat.min_def]; split <;> omega) rfl
      (fun j v hj => by
        rw [addX, hWc, hW1, World.cell?_setCells_out b _ _ _ _ (fun h _ => absurd h hvb)]
        exact hvs j v hj)
      (fun j hj => by rw [hWc]; exact hsp1 _ (by simp at hj; omega)) (fun j => by rw [hWf, hW1, World.frozen?_setCells]; exact hfz _) (by intro v hv; simp at hv; rcases hv with rfl | rfl <;> rfl)
  rw [← hW1] at hcp1
  clear hcs hsp hfz hvs hfa hsa hsb hsp1 hdl
  go_enter Try.func27, Try.ntmps27
  go_wp2_with (simp only [hov])
  go_region_law (refine step_copy_runI rfl _ _ 27 27 rfl _ _ (by simp [Act.eval, Act.put]) (by simp [Act.eval, Act.put]) (hcp1 _ _ _) ?_)
  go_wp2_with (at_builtin; refine wpList_copy_runI _ rfl _ _ 27 27 rfl _ _ rfl rfl (hcp2 _ (fun _ => rfl) (fun _ => rfl) _ _) ?_)
  go_ret
  first | exact ⟨rfl, rfl⟩ | exact ⟨rfl, by rw [hW1]⟩
set_option maxHeartbeats 4000000 in
set_option maxRecDepth 100000 in
/-- Insert where there is no room, not at the end: a new row. -/
theorem c27g (b c i vb : Nat) (fs : List F2) (x : F2) (w : World) (hi : i < fs.length) (hl : fs.length ≤ 40) (hnc : fs.length ≤ c) (hroom : c < fs.length + 1) (hbw : b < w.heap.size) (hvw : vb < w.heap.size)
    (hcs : ∀ j v, (fileCells fs)[j]? = some v → w.cell? ⟨b, 0 + j, none⟩ = some v)
    (hvs : ∀ j v, [Value.string x.nm, .string x.tx][j]? = some v → w.cell? ⟨vb, 0 + j, none⟩ = some v) :
    Calls Try.prog 27 #[.slice (some ⟨b, 0, none⟩) fs.length c, .int .i64 i, .slice (some ⟨vb, 0, none⟩) 1 1] w fun e w' => ∃ (G : Nat) (ROW : Array Value), fs.length + 1 ≤ G ∧ (fs.length + 1) * 2 ≤ ROW.size ∧ (∀ j, j < i * 2 → ROW[j]? = (fileCells fs)[j]?) ∧
      e = .returned (.slice (some ⟨w.heap.size, 0, none⟩) (fs.length + 1) G) ∧
      w' = (((w.alloc (.cells ROW 38)).drew.setCells w.heap.size (i * 2) [.string x.nm, .string x.tx]).drew).setCells w.heap.size ((i + 1) * 2) (fileCells (fs.drop i)) := by
  obtain ⟨i0, hi0, hz0, hzs, hzb⟩ := info_parts info38
  have hz2 : ¬ ((i : Int) = (fs.length : Int)) := by omega
  have hz3 : (c : Int) < (fs.length : Int) + 1 := by omega
  have hkk : (fs.length : Int) + 1 - (i : Int) = ((fs.length + 1 - i : Nat) : Int) := by omega
  have hik : i + (fs.length + 1 - i) = fs.length + 1 := by omega
  have hold : (Builtin.firstCells i0.size i (.slice (some ⟨b, 0, none⟩) i c)).run Try.prog w.drew = .ok (fileCells (fs.take i)).toArray w.drew := by
    rw [hzs]
    exact run_firstCells_some w.drew 2 i ⟨b, 0, none⟩ i c (fileCells (fs.take i)) (by rw [fileCells_len, List.length_take]; omega) (fun j v hj => by
      rw [addX]
      refine hcs j v ?_
      have hjl : j < i * 2 := by have := (List.getElem?_eq_some_iff.1 hj).1; rw [fileCells_len, List.length_take] at this; omega
      have e : fileCells fs = fileCells (fs.take i) ++ fileCells (fs.drop i) := by rw [← fileCells_app, List.take_append_drop]
      rw [e, List.getElem?_append_left (by rw [fileCells_len, List.length_take]; omega)]
      exact hj)
  have hrz : ∀ ty, (Builtin.append_ #[27, 3] ty #[.slice (some ⟨b, 0, none⟩) i c, .int .i64 ((fs.length : Int) + 1 - (i : Int))]).run Try.prog w =
      .ok (.slice (some ⟨w.heap.size, 0, none⟩) (fs.length + 1) (grownCap w (fs.length + 1) c 38)) (w.drew.alloc (.cells ((fileCells (fs.take i)).toArray ++ Builtin.zeroCells (Value.agg #[.string ⟨#[]⟩, .string ⟨#[]⟩]).cells (fs.length + 1 - i) ++ Builtin.zeroCells (Value.agg #[.string ⟨#[]⟩, .string ⟨#[]⟩]).cells (grownCap w (fs.length + 1) c 38 - (fs.length + 1))) 38)) := fun ty => by
    have h := Lib.run_append_grow_zeros w 27 3 ty 38 i0 _ .i64 .i64 Try.underlying27 Try.underlying3 hi0 hz0 (some ⟨b, 0, none⟩) i c (fileCells (fs.take i)) hold (fs.length + 1 - i) (by omega) (by omega) (by omega) (by omega) (by rw [hzb]; omega) (by rw [hzb, hik]; exact growslice_fits hroom (by omega))
    rw [hik] at h
    rw [hkk]
    exact h
  obtain ⟨G, hG⟩ : ∃ G, G = grownCap w (fs.length + 1) c 38 := ⟨_, rfl⟩
  obtain ⟨ROW, hROW⟩ : ∃ ROW : Array Value, ROW = (fileCells (fs.take i)).toArray ++ Builtin.zeroCells (Value.agg #[.string ⟨#[]⟩, .string ⟨#[]⟩]).cells (fs.length + 1 - i) ++ Builtin.zeroCells (Value.agg #[.string ⟨#[]⟩, .string ⟨#[]⟩]).cells (G - (fs.length + 1)) := ⟨_, rfl⟩
  rw [← hG] at hrz
  rw [← hROW] at hrz
  have hRl : (fs.length + 1) * 2 ≤ ROW.size := by
    rw [hROW]
    simp [Builtin.zeroCells, Value.cells, fileCells_len]
    omega
  have hR1 : ∀ j, j < i * 2 → ROW[j]? = (fileCells fs)[j]? := fun j hj => by
    have e : fileCells fs = fileCells (fs.take i) ++ fileCells (fs.drop i) := by rw [← fileCells_app, List.take_append_drop]
    have hlen : (fileCells (fs.take i)).length = i * 2 := by rw [fileCells_len, List.length_take]; omega
    rw [hROW, e, List.getElem?_append_left (by omega), Array.append_assoc, Array.getElem?_append_left (by simpa using (by omega : j < (fileCells (fs.take i)).length))]
    simp
  obtain ⟨W1, hW1⟩ : ∃ W1, W1 = w.drew.alloc (.cells ROW 38) := ⟨_, rfl⟩
  rw [← hW1] at hrz
  have hh : (w.drew.alloc (.cells ROW 38)).heap[w.heap.size]? = some (.cells ROW 38 (0, 0)) := alloc_new (w := w.drew) rfl _
  have hN : ∀ j, j < (fs.length + 1) * 2 → (W1.cell? ⟨w.heap.size, j, none⟩).isSome = true := fun j hj => by
    rw [hW1, Lib.cell_of_heap hh, Array.getElem?_eq_getElem (by omega)]; rfl
  have hNf : ∀ j, W1.frozen? ⟨w.heap.size, j, none⟩ = false := fun j => by rw [hW1]; exact Lib.frozen_of_heap hh j
  have hO : ∀ q j v, q < w.heap.size → w.cell? ⟨q, j, none⟩ = some v → W1.cell? ⟨q, j, none⟩ = some v := fun q j v hq h => by rw [hW1, World.cell?_alloc_lt _ _ _ (by exact hq)]; exact h
  have hcpA : ∀ (W : World), (∀ x, W.cell? x = W1.cell? x) → (∀ x, W.frozen? x = W1.frozen? x) → ∀ ty dc, (Builtin.copy_ #[27, 27] ty #[.slice (some ⟨w.heap.size, i * 2, none⟩) (fs.length + 1 - i) dc, .slice (some ⟨vb, 0, none⟩) 1 1]).run Try.prog W = .ok (goInt 1) (W.setCells w.heap.size (i * 2) [.string x.nm, .string x.tx]) := fun W hWc hWf ty dc =>
    run_copy2 W ty w.heap.size (i * 2) (fs.length + 1 - i) dc ⟨vb, 0, none⟩ 1 1 1 [.string x.nm, .string x.tx] (by simp only [Nat.min_def]; split <;> omega) rfl
      (fun j v hj => by rw [addX, hWc]; exact hO _ _ v hvw (hvs j v hj))
      (fun j hj => by rw [hWc]; exact hN _ (by simp at hj; omega)) (fun j => by rw [hWf]; exact hNf _) (by intro v hv; simp at hv; rcases hv with rfl | rfl <;> rfl)
  have hGn : fs.length + 1 ≤ G := by rw [hG]; exact grownCap_ge w _ _ _
  have hG63 : G ≤ 9223372036854775807 := by
    have := grownCap_le_maxLen w (fs.length + 1) c 38 (by unfold maxLen; omega)
    rw [← hG] at this
    unfold maxLen at this
    omega
  have hGi : ¬ (G = i) := by omega
  have hGim : ¬ (G = i + 1) := by omega
  have hci : ¬ (c = i) := by omega
  have hbN : b ≠ w.heap.size := by omega
  have hdl : (fileCells (fs.drop i)).length = (fs.length - i) * 2 := by rw [fileCells_len, List.length_drop]
  have hcpB : ∀ (W : World), (∀ y, W.cell? y = (W1.setCells w.heap.size (i * 2) [.string x.nm, .string x.tx]).cell? y) → (∀ y, W.frozen? y = (W1.setCells w.heap.size (i * 2) [.string x.nm, .string x.tx]).frozen? y) → ∀ ty dl dc sc, dl = fs.length - i → (Builtin.copy_ #[27, 27] ty #[.slice (some ⟨w.heap.size, (i + 1) * 2, none⟩) dl dc, .slice (some ⟨b, i * 2, none⟩) (fs.length - i) sc]).run Try.prog W = .ok (goInt ((fs.length - i : Nat))) (W.setCells w.heap.size ((i + 1) * 2) (fileCells (fs.drop i))) := fun W hWc hWf ty dl dc sc hdle =>
    run_copy2 W ty w.heap.size ((i + 1) * 2) dl dc ⟨b, i * 2, none⟩ (fs.length - i) sc (fs.length - i) _ (by rw [hdle]; simp only [Nat.min_def]; split <;> omega) hdl
      (fun j v hj => by
        rw [addX, hWc, World.cell?_setCells_out _ _ _ _ _ (fun h _ => absurd h hbN)]
        have hj' : (fileCells fs)[i * 2 + j]? = some v := by
          have e : fileCells fs = fileCells (fs.take i) ++ fileCells (fs.drop i) := by rw [← fileCells_app, List.take_append_drop]
          rw [e, List.getElem?_append_right (by rw [fileCells_len, List.length_take]; omega), fileCells_len, List.length_take, Nat.min_eq_left (by omega), Nat.add_sub_cancel_left]
          exact hj
        have := hcs _ _ hj'
        rw [Nat.zero_add] at this
        exact hO _ _ v hbw this)
      (fun j hj => by rw [hWc]; exact isSome_setCells _ _ _ _ _ (hN _ (by rw [hdl] at hj; omega)))
      (fun j => by rw [hWf, World.frozen?_setCells]; exact hNf _) fileCells_one
  subst hW1
  have hE1 : ∀ x, ((w.alloc (.cells ROW 38)).drew).cell? x = (w.drew.alloc (.cells ROW 38)).cell? x := fun x => rfl
  have hE2 : ∀ x, ((w.alloc (.cells ROW 38)).drew).frozen? x = (w.drew.alloc (.cells ROW 38)).frozen? x := fun x => rfl
  have hF1 : ∀ y, (((w.alloc (.cells ROW 38)).drew.setCells w.heap.size (i * 2) [.string x.nm, .string x.tx]).drew).cell? y = ((w.drew.alloc (.cells ROW 38)).setCells w.heap.size (i * 2) [.string x.nm, .string x.tx]).cell? y := fun x => rfl
  have hF2 : ∀ y, (((w.alloc (.cells ROW 38)).drew.setCells w.heap.size (i * 2) [.string x.nm, .string x.tx]).drew).frozen? y = ((w.drew.alloc (.cells ROW 38)).setCells w.heap.size (i * 2) [.string x.nm, .string x.tx]).frozen? y := fun x => rfl
  have hw1 : IntKind.i64.wrap ((i : Int) + 1) = (i : Int) + 1 := by rw [show (i : Int) + 1 = ((i + 1 : Nat) : Int) by omega]; exact wrap_nat (i + 1) (by omega)
  have hb1 : (0 : Int) ≤ (i : Int) + 1 := by omega
  have hin : i ≤ fs.length := by omega
  have htn : ((i : Int) + 1).toNat = i + 1 := by omega
  have hb3 : (i : Int) ≤ (fs.length : Int) := by omega
  have hb6 : (i : Int) + 1 ≤ (fs.length : Int) + 1 := by omega
  have HPOST : Hid (fs.length + 1 ≤ G ∧ (fs.length + 1) * 2 ≤ ROW.size ∧ (∀ j, j < i * 2 → ROW[j]? = (fileCells fs)[j]?)) := ⟨hGn, hRl, hR1⟩
  clear hh hkk hik hold hROW hG hRl hR1 hcs hvs hN hNf hO hdl
  go_enter Try.func27, Try.ntmps27
  go_wp2_with (first
    | (at_builtin; refine Lib.wpList_append_run _ rfl _ _ _ _ rfl _ _ rfl rfl _ _ (hrz _) ?_)
    | (at_builtin; refine wpList_copy_runI _ rfl _ _ 27 27 rfl _ _ rfl rfl (hcpA _ hE1 hE2 _ _) ?_))
  go_region_law (first | (refine step_copy_runI rfl _ _ 27 27 rfl (.slice (some ⟨w.heap.size, (i + 1) * 2, none⟩) (fs.length + 1 - (i + 1)) (G - (i + 1))) (.slice (some ⟨b, i * 2, none⟩) (fs.length - i) (c - i)) (by simp [Act.eval, Act.put]) (by simp [Act.eval, Act.put]) (hcpB _ hF1 hF2 3 (fs.length + 1 - (i + 1)) (G - (i + 1)) (c - i) (by omega)) ?_) | (refine step_copy_runI rfl _ _ 27 27 rfl (.slice (some ⟨w.heap.size, (i + 1) * 2, none⟩) (fs.length - i) (G - (i + 1))) (.slice (some ⟨b, i * 2, none⟩) (fs.length - i) (c - i)) (by simp [Act.eval, Act.put]) (by simp [Act.eval, Act.put]) (hcpB _ hF1 hF2 3 (fs.length - i) (G - (i + 1)) (c - i) (by omega)) ?_))
  go_wp2
  go_ret
  exact ⟨G, ROW, HPOST.out.1, HPOST.out.2.1, HPOST.out.2.2, rfl, rfl⟩
end Go.Proofs.Ytolihfbnbkaflaa
