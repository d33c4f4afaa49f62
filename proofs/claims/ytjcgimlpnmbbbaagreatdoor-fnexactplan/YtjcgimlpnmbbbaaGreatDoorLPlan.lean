import Derived.Test.YtjcgimlpnmbbbaaGreatDoorK6
import Derived.Test.YtjcgimlpnmbbbaaGreatDoorCards
import Derived.Test.YtjcgimlpnmbbbaaGreatDoorTie
import Derived.WalkKit
import Derived.Deep.Slices
import Derived.OpenVars
import Derived.ProofKit
import Derived.OpenShut
import Derived.ChangeOld
import Derived.LaidMore
import Derived.LaidOnce
import Derived.LaidHandle
import Derived.Deep.DeepHandedRow
import Derived.Deep.DeepWitnessRowRef
import Derived.SevenTiedAt
import Derived.Shelf.Vars
namespace Go.Proofs.YtjcgimlpnmbbbaaGreatDoor.T
open Go.ChangeShapes Go.WideShapes Go.ChangeAt Go.RowKit
theorem cells9 : Tryz.prog.cellsOf 9 = 1 := by kernel_rfl
theorem add_none (b off i : Nat) : (⟨b, off, none⟩ : Addr).add i = ⟨b, off + i, none⟩ := by unfold Addr.add; split <;> simp_all
theorem cells57 : Tryz.prog.cellsOf 57 = 2 := by kernel_rfl
theorem list2 {α : Type} {l : List α} (h : l.length = 2) : ∃ a b, l = [a, b] := by
  rcases l with _ | ⟨a, _ | ⟨b, _ | ⟨c, l⟩⟩⟩
  · cases h
  · cases h
  · exact ⟨a, b, rfl⟩
  · simp at h
theorem file_cells {H : Type} {enc : TypeId × Value → H} {w : World} {base : Nat} {sp : Nat → Bool} {held : Bool} {fuel : Nat} {cs : List Value} {y : DataW H × List MemPlace}
    (h : DataW.trod enc Tryz.prog w base sp held fuel 57 cs = some y) : ∃ x : F2, cs = [.string x.nm, .string x.tx] ∧ x.le maxLen := by
  obtain ⟨y0, y1, n, hx, hlen, h0, h1⟩ := trod_struct2 Tryz.underlying57 h
  rw [cells57] at hlen
  obtain ⟨c0, c1, rfl⟩ := list2 hlen
  simp only [cells9] at h0 h1
  obtain ⟨n0, e0, _, hn⟩ := DataW.trod_string Tryz.underlying9 h0
  obtain ⟨s, e1, _, hs⟩ := DataW.trod_string Tryz.underlying9 h1
  simp at e0 e1
  exact ⟨⟨n0, s⟩, by rw [e0, e1], ⟨hn, hs⟩⟩
/-- A slice of files that came in. -/
theorem opened {H : Type} {enc : TypeId × Value → H} {W : World} {fuel : Nat} {cs : List Value} {y : DataW H × List MemPlace}
    (hf : DataW.trod enc Tryz.prog W 0 (fun _ => true) true fuel 22 cs = some y) :
    ∃ (a : Option Addr) (cap : Nat) (is : List F2), cs = [.slice a is.length cap] ∧ is.length ≤ maxLen ∧ (∀ i, (is.getD i f2z).le maxLen) ∧ FilesAt W a is := by
  rcases Go.Deep.open_slice Tryz.underlying22 hf with ⟨rfl, _⟩ | ⟨a, len, cap, m, n, D, Pl, rfl, _, hl, hm, hmm, _, hx⟩
  · exact ⟨none, 0, [], rfl, Nat.zero_le _, fun i => ⟨by simp [f2z, ByteArray.size], by simp [f2z, ByteArray.size]⟩, .inl rfl⟩
  · simp only [if_true] at hmm
    subst hmm
    have hex : ∀ i, i < m → ∃ x : F2, W.cells? 0 (a.add (i * 2)) 2 = some [.string x.nm, .string x.tx] ∧ x.le maxLen := fun i hi => by
      obtain ⟨cs', h1, h2⟩ := hx i hi
      obtain ⟨x, rfl, hs⟩ := file_cells h2
      rw [cells57] at h1
      exact ⟨x, h1, hs⟩
    obtain ⟨V, hV⟩ := @Go.Deep.choose_lt F2 ⟨f2z⟩ m (fun i x => W.cells? 0 (a.add (i * 2)) 2 = some [.string x.nm, .string x.tx] ∧ x.le maxLen) hex
    have hlen : ((List.range len).map V).length = len := by simp
    have hget : ∀ i, i < len → ((List.range len).map V).getD i f2z = V i := fun i hi => by simp [List.getD, hi]
    refine ⟨some a, m, (List.range len).map V, by rw [hlen], by rw [hlen]; omega, getD_small2 (fun i hi => ?_), ?_⟩
    · rw [hlen] at hi
      rw [hget i hi]
      exact (hV i (by omega)).2
    · rcases Nat.eq_zero_or_pos len with h0 | h0
      · exact .inl (by rw [h0]; rfl)
      · obtain ⟨b, off, spot⟩ := a
        obtain ⟨_, _, hc⟩ := World.cells?_some (hV 0 (by omega)).1
        have hc0 := hc 0 (by omega)
        have hspot : spot = none := by simpa [Addr.add] using World.cell?_spot hc0
        subst hspot
        refine .inr ⟨b, off, rfl, ?_, fun i hi => ?_⟩
        · rw [add_none, add_none] at hc0
          rcases Nat.lt_or_ge b W.heap.size with h | h
          · exact h
          · simp [World.cell?, Array.getElem?_eq_none h] at hc0
        · rw [hlen] at hi
          rw [hget i hi]
          obtain ⟨_, _, hc⟩ := World.cells?_some (hV i (by omega)).1
          have e0 := hc 0 (by omega)
          have e1 := hc 1 (by omega)
          rw [add_none, add_none] at e0 e1
          exact ⟨e0, e1⟩
end Go.Proofs.YtjcgimlpnmbbbaaGreatDoor.T
namespace Go.Proofs.YtjcgimlpnmbbbaaGreatDoor.fnExactPlan
open Go.ChangeShapes Go.WideShapes Go.ChangeAt Go.RowKit
open T (F2 f2z treeOk Asc FilesAt)
set_option linter.unusedVariables false

theorem own : ownKnob Tryz.prog.godebug = none := by kernel_rfl
theorem laidOut : laidOutB Tryz.prog = true := by kernel_rfl
theorem cells24 : Tryz.prog.cellsOf 24 = 1 := by kernel_rfl
theorem cells22 : Tryz.prog.cellsOf 22 = 1 := by kernel_rfl
theorem max_of_shaped {w : World} (h : w.ShapedOpen Tryz.prog) : MaxAt w := by
  obtain ⟨m, hm⟩ := Go.Proofs.cell_of_shapedOpen_int (g := 8) (zero := #[.int .i64 0]) (t := 3) h (of_decide_eq_true (by kernel_rfl)) (by kernel_rfl) rfl (by kernel_rfl) (by kernel_rfl) Tryz.underlying3
  refine ⟨?_, m, hm⟩
  rcases Nat.lt_or_ge 8 w.heap.size with h1 | h1
  · exact h1
  · simp [World.cell?, Array.getElem?_eq_none h1] at hm
theorem et : Tryz.prog.globalNamed "errors.errorType" = some 4 := by kernel_rfl
theorem rt : (Tryz.prog.cutTypes.find? (·.1 == "internal/reflectlite.rtype")).map (·.2) = some 109 := by kernel_rfl
theorem oneRow : ((List.range 175).filter fun t => Tryz.prog.rowNamed t [101, 114, 114, 111, 114]) = [48] := by kernel_rfl
theorem tsize : Tryz.prog.types.size = 175 := by kernel_rfl
theorem gerrTaken : Tryz.prog.globalNamed "loop.example/kiln/impl.errTaken" = some 0 := by kernel_rfl
theorem terrTaken : (Tryz.prog.globals[0]?).map (·.type) = some 48 := by kernel_rfl
theorem gerrLong : Tryz.prog.globalNamed "loop.example/kiln/impl.errLong" = some 1 := by kernel_rfl
theorem terrLong : (Tryz.prog.globals[1]?).map (·.type) = some 48 := by kernel_rfl
theorem gerrEnd : Tryz.prog.globalNamed "loop.example/kiln/impl.errEnd" = some 2 := by kernel_rfl
theorem terrEnd : (Tryz.prog.globals[2]?).map (·.type) = some 48 := by kernel_rfl
theorem gerrShape : Tryz.prog.globalNamed "loop.example/kiln/impl.errShape" = some 3 := by kernel_rfl
theorem terrShape : (Tryz.prog.globals[3]?).map (·.type) = some 48 := by kernel_rfl
theorem gerrMany : Tryz.prog.globalNamed "loop.example/kiln/impl.errMany" = some 5 := by kernel_rfl
theorem terrMany : (Tryz.prog.globals[5]?).map (·.type) = some 48 := by kernel_rfl
theorem gerrMake : Tryz.prog.globalNamed "loop.example/kiln/impl.errMake" = some 6 := by kernel_rfl
theorem terrMake : (Tryz.prog.globals[6]?).map (·.type) = some 48 := by kernel_rfl
theorem gerrOrder : Tryz.prog.globalNamed "loop.example/kiln/impl.errOrder" = some 7 := by kernel_rfl
theorem terrOrder : (Tryz.prog.globals[7]?).map (·.type) = some 48 := by kernel_rfl
theorem iface_of_trod {H : Type} {enc : TypeId × Value → H} {W : World} {fuel : Nat} {cs : List Value} {nm : String} {d : DataW H} {p : List MemPlace}
    (h : DataW.trod enc Tryz.prog W 0 (fun _ => true) false fuel 48 cs = some (.iface nm d, p)) : ∃ u v, cs = [.iface u v] := by
  cases fuel with
  | zero => simp [DataW.trod] at h
  | succ m =>
    rcases cs with _ | ⟨c, _ | ⟨c', r⟩⟩
    · simp [DataW.trod, Tryz.underlying48] at h
    · cases c <;> first | exact ⟨_, _, rfl⟩ | simp [DataW.trod, Tryz.underlying48] at h
    · cases c <;> simp [DataW.trod, Tryz.underlying48] at h
theorem var_iface {W : World} {n : String} {g : Nat} {cs : Array Value} {fuel : Nat} {nm : String} {d : DataW Unit} {p : List MemPlace} (hg : Tryz.prog.globalNamed n = some g) (hv : W.var? Tryz.prog n = some cs)
    (h : DataW.trod (fun _ => ()) Tryz.prog W 0 (fun _ => true) false fuel 48 cs.toList = some (.iface nm d, p)) : ∃ t v, W.cell? ⟨g, 0, none⟩ = some (.iface t v) := by
  obtain ⟨u, v, e⟩ := iface_of_trod h
  have := World.var?_cell hg hv 0
  rw [Array.eq_one_of_toList e] at this
  exact ⟨u, v, by simpa using this⟩

theorem vars_of_laid {W : World} (h : laidMetH Tryz.prog Rows.fnExactPlanRow.laid W) (hSO : W.ShapedOpen Tryz.prog) : VarsZ W := by
  have h' : laidMet Tryz.prog [("unicode/utf8.acceptRanges", Rows.laid_unicode_utf8_acceptRanges), ("loop.example/kiln/impl.errLong", Rows.laid_loop_example_kiln_impl_errLong), ("loop.example/kiln/impl.errEnd", Rows.laid_loop_example_kiln_impl_errEnd), ("loop.example/kiln/impl.errShape", Rows.laid_loop_example_kiln_impl_errShape), ("loop.example/kiln/impl.errMake", Rows.laid_loop_example_kiln_impl_errMake), ("loop.example/kiln/impl.errMany", Rows.laid_loop_example_kiln_impl_errMany), ("loop.example/kiln/impl.errOrder", Rows.laid_loop_example_kiln_impl_errOrder), ("loop.example/kiln/impl.errTaken", Rows.laid_loop_example_kiln_impl_errTaken), ("unicode/utf8.first", Rows.laid_unicode_utf8_first)] W ∧ handlesMet Tryz.prog [("errors.errorType", Rows.laid_errors_errorType)] W := h
  obtain ⟨hp, hh⟩ := h'
  obtain ⟨ps, ⟨g1, t1, cs1, f1, p1, q1, hg1, ht1, hv1, hd1, ⟨g2, t2, cs2, f2, p2, q2, hg2, ht2, hv2, hd2, ⟨g3, t3, cs3, f3, p3, q3, hg3, ht3, hv3, hd3, ⟨g4, t4, cs4, f4, p4, q4, hg4, ht4, hv4, hd4, ⟨g5, t5, cs5, f5, p5, q5, hg5, ht5, hv5, hd5, ⟨g6, t6, cs6, f6, p6, q6, hg6, ht6, hv6, hd6, ⟨g7, t7, cs7, f7, p7, q7, hg7, ht7, hv7, hd7, ⟨g8, t8, cs8, f8, p8, q8, hg8, ht8, hv8, hd8, ⟨g9, t9, cs9, f9, p9, q9, hg9, ht9, hv9, hd9, _, _⟩, _⟩, _⟩, _⟩, _⟩, _⟩, _⟩, _⟩, _⟩, _, _⟩ := hp
  obtain rfl := Option.some.inj (gerrLong.symm.trans hg2)
  obtain rfl := Option.some.inj (terrLong.symm.trans ht2)
  obtain rfl := Option.some.inj (gerrEnd.symm.trans hg3)
  obtain rfl := Option.some.inj (terrEnd.symm.trans ht3)
  obtain rfl := Option.some.inj (gerrShape.symm.trans hg4)
  obtain rfl := Option.some.inj (terrShape.symm.trans ht4)
  obtain rfl := Option.some.inj (gerrMake.symm.trans hg5)
  obtain rfl := Option.some.inj (terrMake.symm.trans ht5)
  obtain rfl := Option.some.inj (gerrMany.symm.trans hg6)
  obtain rfl := Option.some.inj (terrMany.symm.trans ht6)
  obtain rfl := Option.some.inj (gerrOrder.symm.trans hg7)
  obtain rfl := Option.some.inj (terrOrder.symm.trans ht7)
  obtain rfl := Option.some.inj (gerrTaken.symm.trans hg8)
  obtain rfl := Option.some.inj (terrTaken.symm.trans ht8)
  refine ⟨⟨⟨var_iface hg6 hv6 hd6, var_iface hg5 hv5 hd5, var_iface hg7 hv7 hd7, ?_⟩, var_iface hg2 hv2 hd2, var_iface hg3 hv3 hd3, var_iface hg4 hv4 hd4, max_of_shaped hSO⟩, var_iface hg8 hv8 hd8⟩
  obtain ⟨name, u, ty, e1, e2, e3, e4, e5⟩ := hh _ (List.mem_singleton.2 rfl)
  have en : name = [101, 114, 114, 111, 114] := (Option.some.inj e1).symm
  subst en
  obtain rfl := Option.some.inj (rt.symm.trans e2)
  have hm : ty ∈ (List.range 175).filter fun t => Tryz.prog.rowNamed t [101, 114, 114, 111, 114] := List.mem_filter.2 ⟨List.mem_range.2 (by rw [← tsize]; exact e3), e4⟩
  rw [oneRow] at hm
  obtain rfl := List.mem_singleton.1 hm
  have hh : typeHandle Tryz.prog 48 = .pointer (some ⟨11, 48, none⟩) := by kernel_rfl
  rw [hh] at e5
  simpa using World.var?_cell et e5 0
set_option maxHeartbeats 4000000 in
set_option maxRecDepth 100000 in
theorem contract (H : Type) (enc : TypeId × Value → H) (W : World) (base : Nat) (args : Array Value) (ds gs : List (DataW H)) (before : List MemPlace)
    (hval : ∀ (j : Nat) t v, Tryz.f3.params[j]? = some t → args[j]? = some v → Value.okWide Tryz.prog W .any base t v)
    (hW : DataW.Whole enc Tryz.prog Tryz.f3.params.toList Rows.fnExactPlanSpec.vars false W args.toList ds gs before) (hL : laidMetH Tryz.prog Rows.fnExactPlanRow.laid W) (hSO : W.ShapedOpen Tryz.prog) :
    Calls Tryz.prog 3 args W fun e W' => ∃ v, e = .returned v ∧ Rows.fnExactPlanSpec.post enc Tryz.prog Tryz.f3 false true false false W args v W' := by
  have hsh : VarsZ W := vars_of_laid hL hSO
  have hW' := hW
  obtain ⟨p, q, hA0, hV, rfl, hfz, hnd⟩ := hW
  have hA : DataW.TrodAll enc Tryz.prog W 0 (fun _ => true) true Tryz.f3.params.toList args.toList ds p := hA0
  rw [Tryz.params3] at hA hval
  obtain ⟨v0, vs0, d0, ds0, p0, q0, hargs, rfl, rfl, h0, r0⟩ := trodAll_cons hA
  obtain ⟨rfl, rfl, rfl⟩ := trodAll_nil r0
  obtain rfl : args = #[v0] := Array.ext' hargs
  have hV1 := hV
  obtain ⟨g1, g2, g3, g4, g5, g6, g7, rfl⟩ : ∃ g1 g2 g3 g4 g5 g6 g7, gs = [g1, g2, g3, g4, g5, g6, g7] := by
    have hV2 : DataW.TrodVars enc Tryz.prog W (fun _ => true) ["loop.example/kiln/impl.errTaken", "loop.example/kiln/impl.errLong", "loop.example/kiln/impl.errEnd", "loop.example/kiln/impl.errShape", "loop.example/kiln/impl.errMany", "loop.example/kiln/impl.errMake", "loop.example/kiln/impl.errOrder"] gs q := hV
    rcases gs with _ | ⟨g1, gs⟩
    · exact hV2.elim
    obtain ⟨_, _, _, _, _, _, _, _, _, _, hV3, _⟩ := hV2
    rcases gs with _ | ⟨g2, gs⟩
    · exact hV3.elim
    obtain ⟨_, _, _, _, _, _, _, _, _, _, hV4, _⟩ := hV3
    rcases gs with _ | ⟨g3, gs⟩
    · exact hV4.elim
    obtain ⟨_, _, _, _, _, _, _, _, _, _, hV5, _⟩ := hV4
    rcases gs with _ | ⟨g4, gs⟩
    · exact hV5.elim
    obtain ⟨_, _, _, _, _, _, _, _, _, _, hV6, _⟩ := hV5
    rcases gs with _ | ⟨g5, gs⟩
    · exact hV6.elim
    obtain ⟨_, _, _, _, _, _, _, _, _, _, hV7, _⟩ := hV6
    rcases gs with _ | ⟨g6, gs⟩
    · exact hV7.elim
    obtain ⟨_, _, _, _, _, _, _, _, _, _, hV8, _⟩ := hV7
    rcases gs with _ | ⟨g7, gs⟩
    · exact hV8.elim
    obtain ⟨_, _, _, _, _, _, _, _, _, _, hV9, _⟩ := hV8
    rcases gs with _ | ⟨g8, gs⟩
    · exact ⟨_, _, _, _, _, _, _, rfl⟩
    · exact hV9.elim
  have k0 := h0
  have lt0 : ∀ x ∈ p0, x.block < W.heap.size := by obtain ⟨m, hm⟩ := k0; exact DataW.trod_lt m _ _ _ hm
  obtain ⟨cs, rfl, hsz⟩ := okWide_struct Tryz.underlying24 (hval 0 24 v0 rfl rfl)
  obtain ⟨fuel, hf⟩ := h0
  obtain ⟨y0, n, _, hlen, hy⟩ := trod_struct1 Tryz.underlying24 hf
  rw [cells24] at hsz
  obtain ⟨c0, rfl⟩ : ∃ c, cs = #[c] := Array.size_eq_one_iff.1 hsz
  simp only [cells22] at hy
  obtain ⟨a, cap, is, hcs, hl, hs, hat⟩ := T.opened hy
  simp [Value.cells] at hcs
  subst hcs
  clear hA0
  refine (c3 a cap is W (fun i => ⟨Nat.le_trans (hs i).1 (by unfold maxLen; omega), Nat.le_trans (hs i).2 (by unfold maxLen; omega)⟩) (Nat.le_trans hl (by unfold maxLen; omega)) hat hsh).mono fun e W' ⟨he, bel⟩ => ?_
  subst he
  exact ⟨_, rfl, _, _, _, [], _, _, hW', trodAll_mk1 (shut_bool Tryz.underlying4 _), (trodAll_cons_mk (Below.trod laidOut (by kernel_rfl) (of_decide_eq_true (by kernel_rfl)) k0 bel lt0) trodAll_mk0), Below.trodVars laidOut bel (by kernel_rfl) hV1, bel.frame _, fun h => by cases h⟩

/-- The cells that a table's datum is. -/
def cell1 : DataW Unit → Value
  | .lit (.int k n) => .int k n
  | .lit (.bool b) => .bool b
  | .lit (.string l) => .string ⟨l.toArray⟩
  | _ => .bool false
def cells1 : DataW Unit → List Value
  | .agg es => es.map cell1
  | d => [cell1 d]
def cells2 : DataW Unit → Array Value
  | .agg ds => (ds.flatMap cells1).toArray
  | _ => #[]
/-- A world for the witness: the settled one, the listed tables holding what their initialisers lay. -/
def withTab (g : Nat) (t : Array Value) (w : World) : World := { w with heap := w.heap.modify g fun
      | .cells _ ty frozen => .cells t ty frozen
      | o => o }
noncomputable def laidWorld (os : Os) : World := withTab 9 (cells2 Rows.laid_unicode_utf8_first) (World.doorLaid Tryz.prog 400 os)
set_option maxRecDepth 100000 in
theorem laid_met (os : Os) : laidMetH Tryz.prog Rows.fnExactPlanRow.laid ((laidWorld os).forCall (fun _ _ => 0) ⟨#[], #[.agg #[.slice none 0 0]], []⟩).memory :=
  laidMetH_of_parts (laidMet_of_run' 8 (by kernel_rfl) (by kernel_rfl)) (by kernel_rfl)
set_option maxRecDepth 100000 in
theorem reads (os : Os) {H : Type} (enc : TypeId × Value → H) : ∃ ds gs places, DataW.whole enc Tryz.prog ((laidWorld os).forCall (fun _ _ => 0) ⟨#[], #[.agg #[.slice none 0 0]], []⟩).memory Tryz.f3.params.toList Rows.fnExactPlanSpec.vars false #[Value.agg #[.slice none 0 0]].toList 8 = some (ds, gs, places) := by
  have h : (DataW.whole enc Tryz.prog ((laidWorld os).forCall (fun _ _ => 0) ⟨#[], #[.agg #[.slice none 0 0]], []⟩).memory Tryz.f3.params.toList Rows.fnExactPlanSpec.vars false #[Value.agg #[.slice none 0 0]].toList 8).isSome = true := by kernel_rfl
  obtain ⟨⟨a, b, c⟩, e⟩ := Option.isSome_iff_exists.1 h
  exact ⟨a, b, c, e⟩

set_option maxRecDepth 100000 in
theorem lifted (os : Os) (started : os.Started) (H : Type) (enc : TypeId × Value → H) (F : Stop.Interp) :
    ReturnsInHanded {} Tryz.checked os 3 .any ((OpenSpec.ofChange Rows.fnExactPlanSpec).preRow enc Tryz.prog Tryz.f3 Rows.fnExactPlanRow.domain false Rows.fnExactPlanRow.laid) (((OpenSpec.ofChange Rows.fnExactPlanSpec).at F).post enc Tryz.prog Tryz.f3 false true false false) := by
  obtain ⟨ds, gs, places, hx⟩ := reads os enc
  refine returnsInHanded_of_row (C := Tryz.checked) (s := OpenSpec.ofChange Rows.fnExactPlanSpec) own started (by kernel_rfl) Tryz.func3
    (witness_row_atRef (enc := enc) (C := Tryz.checked) false (laidWorld os) #[.agg #[.slice none 0 0]] rfl (by kernel_rfl) (by kernel_rfl) (by kernel_rfl)
      (OpenSpec.preRow_of_cond 8 hx (by kernel_rfl) (fun k hk => by cases hk) (by kernel_rfl) (laid_met os))) ?_
  intro W base args ds gs before hval hW _ _ _ hL hSO _
  exact contract H enc W base args ds gs before hval hW hL hSO

theorem said : Rows.FnExactPlanSaid :=
  OpenClaim.holds_of_cond 3 Tryz.f3 rfl rfl rfl rfl rfl rfl rfl ⟨rfl, rfl, rfl, rfl, rfl⟩ rfl rfl rfl rfl rfl (by kernel_rfl) Tryz.func3 (by kernel_rfl)
    (of_decide_eq_true (by kernel_rfl)) (by unfold Func.isWrapper; first | (rw [if_pos (by decide +kernel)]; kernel_rfl) | (rw [if_neg (by decide +kernel)]; exact ⟨rfl, rfl⟩))
    (fun os started H enc _ F => by rw [OpenClaim.pre_eq_preRow]; exact lifted os started H enc F)

theorem plain (f : FuncId) (fn : Func) (hf : Tryz.pinned.checked.prog.funcNamed "loop.example/kiln/laws.FnExactPlan" = some f) (hfn : Tryz.pinned.checked.prog.funcs[f]? = some fn) :
    true = Tryz.pinned.checked.prog.looks [] ∧ ∀ (j : Nat) t, fn.params[j]? = some t → Tryz.pinned.checked.prog.wantsStandIn t = false := by
  obtain rfl : f = 3 := Option.some.inj ((show Tryz.prog.funcNamed "loop.example/kiln/laws.FnExactPlan" = some 3 by kernel_rfl).symm.trans hf) |>.symm
  obtain rfl : fn = Tryz.f3 := (Option.some.inj (Tryz.func3.symm.trans hfn)).symm
  refine ⟨by kernel_rfl, fun j t ht => ?_⟩
  rw [Tryz.params3] at ht
  obtain rfl : t = 24 := by simpa using Array.mem_of_getElem? ht
  exact (show Tryz.prog.wantsStandIn 24 = false by kernel_rfl)

theorem card : Rows.FnExactPlanCardSaid :=
  Claim7.holds_tied_plain_at .later [] _ _ _ _ said (fun _ h => by cases h) (by kernel_rfl) (fun _ h => by cases h) fnExactPlan_row_tie rfl ⟨rfl, rfl⟩ (by kernel_rfl) rfl plain (by kernel_rfl)
end Go.Proofs.YtjcgimlpnmbbbaaGreatDoor.fnExactPlan
namespace Go.Proofs.YtjcgimlpnmbbbaaGreatDoor
theorem fnExactPlan_holds : Rows.FnExactPlanCardSaid := fnExactPlan.card
#print axioms fnExactPlan_holds
end Go.Proofs.YtjcgimlpnmbbbaaGreatDoor
