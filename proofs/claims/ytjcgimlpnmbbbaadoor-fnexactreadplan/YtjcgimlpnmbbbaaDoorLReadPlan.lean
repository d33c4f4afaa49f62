import Derived.Test.YtjcgimlpnmbbbaaDoorQK
import Derived.Test.YtjcgimlpnmbbbaaDoorPB
import Derived.LaidMore
import Derived.LaidOnce
import Derived.LaidHandle
import Derived.Deep.DeepWitnessRowRef
import Derived.Test.YtjcgimlpnmbbbaaDoorCards
import Derived.Test.YtjcgimlpnmbbbaaDoorTie
import Derived.Deep.DeepHandedRow
import Derived.SevenTiedAt
import Derived.Shelf.Vars
import Derived.ShutString
namespace Go.Proofs.YtjcgimlpnmbbbaaDoor.fnExactReadPlan
open Go.ChangeShapes Go.WideShapes Go.ChangeAt Go.RowKit
open Go.ChangeMaps (open_string shut_string)
set_option linter.unusedVariables false

theorem own : ownKnob Tryd.prog.godebug = none := by kernel_rfl
theorem max_of_shaped {w : World} (h : w.ShapedOpen Tryd.prog) : MaxAt w := by
  obtain ⟨m, hm⟩ := Go.Proofs.cell_of_shapedOpen_int (g := 7) (zero := #[.int .i64 0]) (t := 3) h (of_decide_eq_true (by kernel_rfl)) (by kernel_rfl) rfl (by kernel_rfl) (by kernel_rfl) Tryd.underlying3
  refine ⟨?_, m, hm⟩
  rcases Nat.lt_or_ge 7 w.heap.size with h1 | h1
  · exact h1
  · simp [World.cell?, Array.getElem?_eq_none h1] at hm
theorem gerrLong : Tryd.prog.globalNamed "loop.example/kiln/impl.errLong" = some 3 := by kernel_rfl
theorem terrLong : (Tryd.prog.globals[3]?).map (·.type) = some 42 := by kernel_rfl
theorem gerrEnd : Tryd.prog.globalNamed "loop.example/kiln/impl.errEnd" = some 4 := by kernel_rfl
theorem terrEnd : (Tryd.prog.globals[4]?).map (·.type) = some 42 := by kernel_rfl
theorem gerrShape : Tryd.prog.globalNamed "loop.example/kiln/impl.errShape" = some 5 := by kernel_rfl
theorem terrShape : (Tryd.prog.globals[5]?).map (·.type) = some 42 := by kernel_rfl
theorem vars_of_laid {W : World} (h : laidMetH Tryd.prog Rows.fnExactReadPlanRow.laid W) (hSO : W.ShapedOpen Tryd.prog) : VarsR W := by
  have h' : laidMet Tryd.prog [("unicode/utf8.acceptRanges", Rows.laid_unicode_utf8_acceptRanges), ("loop.example/kiln/impl.errLong", Rows.laid_loop_example_kiln_impl_errLong), ("loop.example/kiln/impl.errEnd", Rows.laid_loop_example_kiln_impl_errEnd), ("loop.example/kiln/impl.errShape", Rows.laid_loop_example_kiln_impl_errShape), ("loop.example/kiln/impl.errMake", Rows.laid_loop_example_kiln_impl_errMake), ("loop.example/kiln/impl.errMany", Rows.laid_loop_example_kiln_impl_errMany), ("loop.example/kiln/impl.errOrder", Rows.laid_loop_example_kiln_impl_errOrder), ("unicode/utf8.first", Rows.laid_unicode_utf8_first)] W ∧ handlesMet Tryd.prog [("errors.errorType", Rows.laid_errors_errorType)] W := h
  obtain ⟨hp, hh⟩ := h'
  obtain ⟨ps, ⟨g1, t1, cs1, f1, p1, q1, hg1, ht1, hv1, hd1, ⟨g2, t2, cs2, f2, p2, q2, hg2, ht2, hv2, hd2, ⟨g3, t3, cs3, f3, p3, q3, hg3, ht3, hv3, hd3, ⟨g4, t4, cs4, f4, p4, q4, hg4, ht4, hv4, hd4, ⟨g5, t5, cs5, f5, p5, q5, hg5, ht5, hv5, hd5, ⟨g6, t6, cs6, f6, p6, q6, hg6, ht6, hv6, hd6, ⟨g7, t7, cs7, f7, p7, q7, hg7, ht7, hv7, hd7, ⟨g8, t8, cs8, f8, p8, q8, hg8, ht8, hv8, hd8, _, _⟩, _⟩, _⟩, _⟩, _⟩, _⟩, _⟩, _⟩, _, _⟩ := hp
  obtain rfl := Option.some.inj (gerrLong.symm.trans hg2)
  obtain rfl := Option.some.inj (terrLong.symm.trans ht2)
  obtain rfl := Option.some.inj (gerrEnd.symm.trans hg3)
  obtain rfl := Option.some.inj (terrEnd.symm.trans ht3)
  obtain rfl := Option.some.inj (gerrShape.symm.trans hg4)
  obtain rfl := Option.some.inj (terrShape.symm.trans ht4)
  obtain rfl := Option.some.inj (gMake.symm.trans hg5)
  obtain rfl := Option.some.inj (tMake.symm.trans ht5)
  obtain rfl := Option.some.inj (gMany.symm.trans hg6)
  obtain rfl := Option.some.inj (tMany.symm.trans ht6)
  obtain rfl := Option.some.inj (gOrder.symm.trans hg7)
  obtain rfl := Option.some.inj (tOrder.symm.trans ht7)
  refine ⟨⟨var_iface hg6 hv6 hd6, var_iface hg5 hv5 hd5, var_iface hg7 hv7 hd7, ?_⟩, var_iface hg2 hv2 hd2, var_iface hg3 hv3 hd3, var_iface hg4 hv4 hd4, max_of_shaped hSO⟩
  obtain ⟨name, u, ty, e1, e2, e3, e4, e5⟩ := hh _ (List.mem_singleton.2 rfl)
  have en : name = [101, 114, 114, 111, 114] := (Option.some.inj e1).symm
  subst en
  obtain rfl := Option.some.inj (rt.symm.trans e2)
  have hm : ty ∈ (List.range 153).filter fun t => Tryd.prog.rowNamed t [101, 114, 114, 111, 114] := List.mem_filter.2 ⟨List.mem_range.2 (by rw [← tsize]; exact e3), e4⟩
  rw [oneRow] at hm
  obtain rfl := List.mem_singleton.1 hm
  have hh : typeHandle Tryd.prog 42 = .pointer (some ⟨10, 42, none⟩) := by kernel_rfl
  rw [hh] at e5
  simpa using World.var?_cell et e5 0

set_option maxHeartbeats 4000000 in
set_option maxRecDepth 100000 in
theorem contract (H : Type) (enc : TypeId × Value → H) (W : World) (base : Nat) (args : Array Value) (ds gs : List (DataW H)) (before : List MemPlace)
    (hval : ∀ (j : Nat) t v, Tryd.f4.params[j]? = some t → args[j]? = some v → Value.okWide Tryd.prog W .any base t v)
    (hW : DataW.Whole enc Tryd.prog Tryd.f4.params.toList Rows.fnExactReadPlanSpec.vars false W args.toList ds gs before) (hL : laidMetH Tryd.prog Rows.fnExactReadPlanRow.laid W) (hSO : W.ShapedOpen Tryd.prog) :
    Calls Tryd.prog 4 args W fun e W' => ∃ v, e = .returned v ∧ Rows.fnExactReadPlanSpec.post enc Tryd.prog Tryd.f4 false true false false W args v W' := by
  have hsh : VarsR W := vars_of_laid hL hSO
  have hW' := hW
  obtain ⟨p, q, hA0, hV, rfl, hfz, hnd⟩ := hW
  have hA : DataW.TrodAll enc Tryd.prog W 0 (fun _ => true) true Tryd.f4.params.toList args.toList ds p := hA0
  rw [Tryd.params4] at hA hval
  obtain ⟨v0, vs0, d0, ds0, p0, q0, hargs, rfl, rfl, h0, r0⟩ := trodAll_cons hA
  obtain ⟨rfl, rfl, rfl⟩ := trodAll_nil r0
  obtain rfl : args = #[v0] := Array.ext' hargs
  have hV1 := hV
  obtain ⟨g1, g2, g3, g4, g5, g6, rfl⟩ : ∃ g1 g2 g3 g4 g5 g6, gs = [g1, g2, g3, g4, g5, g6] := by
    have hV2 : DataW.TrodVars enc Tryd.prog W (fun _ => true) ["loop.example/kiln/impl.errLong", "loop.example/kiln/impl.errEnd", "loop.example/kiln/impl.errShape", "loop.example/kiln/impl.errMany", "loop.example/kiln/impl.errMake", "loop.example/kiln/impl.errOrder"] gs q := hV
    rcases gs with _ | ⟨g1, gs⟩
    · exact hV2.elim
    obtain ⟨_, _, _, _, _, _, _, _, _, _, hV3, _⟩ := hV2
    rcases gs with _ | ⟨g2, gs⟩
    · exact hV3.elim
    obtain ⟨_, _, _, _, _, _, _, _, _, _, hV4, _⟩ := hV3
    rcases gs with _ | ⟨g3, gs⟩
    · exact hV4.elim
    obtain ⟨_, _, _, _, _, _, _, _, _, _, hV5, _⟩ := hV4
    rcases gs with _ | ⟨g4, gs⟩
    · exact hV5.elim
    obtain ⟨_, _, _, _, _, _, _, _, _, _, hV6, _⟩ := hV5
    rcases gs with _ | ⟨g5, gs⟩
    · exact hV6.elim
    obtain ⟨_, _, _, _, _, _, _, _, _, _, hV7, _⟩ := hV6
    rcases gs with _ | ⟨g6, gs⟩
    · exact hV7.elim
    obtain ⟨_, _, _, _, _, _, _, _, _, _, hV8, _⟩ := hV7
    rcases gs with _ | ⟨g7, gs⟩
    · exact ⟨_, _, _, _, _, _, rfl⟩
    · exact hV8.elim
  obtain ⟨a0, rfl, rfl, rfl, w0⟩ := open_string Tryd.underlying9 (hval 0 9 v0 rfl rfl) h0
  clear hA0
  refine (c4 a0 W (by unfold maxLen at w0; omega) hsh).mono fun e W' ⟨he, bel⟩ => ?_
  subst he
  exact ⟨_, rfl, _, _, _, [], _, _, hW', trodAll_mk1 (shut_bool Tryd.underlying4 _), (trodAll_cons_mk (shut_string Tryd.underlying9 w0) trodAll_mk0), Below.trodVars laidOut bel (by kernel_rfl) hV1, bel.frame _, fun h => by cases h⟩

/-- The cells that a table's datum is. -/
def cell1 : DataW Unit → Value
  | .lit (.int k n) => .int k n
  | .lit (.bool b) => .bool b
  | .lit (.string l) => .string ⟨l.toArray⟩
  | _ => .bool false
def cells1 : DataW Unit → List Value
  | .agg es => es.map cell1
  | d => [cell1 d]
def cells2 : DataW Unit → Array Value
  | .agg ds => (ds.flatMap cells1).toArray
  | _ => #[]
/-- A world for the witness: the settled one, the listed tables holding what their initialisers lay. -/
def withTab (g : Nat) (t : Array Value) (w : World) : World := { w with heap := w.heap.modify g fun
      | .cells _ ty frozen => .cells t ty frozen
      | o => o }
noncomputable def laidWorld (os : Os) : World := withTab 8 (cells2 Rows.laid_unicode_utf8_first) (World.doorLaid Tryd.prog 400 os)
set_option maxRecDepth 100000 in
theorem laid_met (os : Os) : laidMetH Tryd.prog Rows.fnExactReadPlanRow.laid ((laidWorld os).forCall (fun _ _ => 0) ⟨#[], #[.string ByteArray.empty], []⟩).memory :=
  laidMetH_of_parts (laidMet_of_run' 8 (by kernel_rfl) (by kernel_rfl)) (by kernel_rfl)
set_option maxRecDepth 100000 in
theorem reads (os : Os) {H : Type} (enc : TypeId × Value → H) : ∃ ds gs places, DataW.whole enc Tryd.prog ((laidWorld os).forCall (fun _ _ => 0) ⟨#[], #[.string ByteArray.empty], []⟩).memory Tryd.f4.params.toList Rows.fnExactReadPlanSpec.vars false #[Value.string ByteArray.empty].toList 8 = some (ds, gs, places) := by
  have h : (DataW.whole enc Tryd.prog ((laidWorld os).forCall (fun _ _ => 0) ⟨#[], #[.string ByteArray.empty], []⟩).memory Tryd.f4.params.toList Rows.fnExactReadPlanSpec.vars false #[Value.string ByteArray.empty].toList 8).isSome = true := by kernel_rfl
  obtain ⟨⟨a, b, c⟩, e⟩ := Option.isSome_iff_exists.1 h
  exact ⟨a, b, c, e⟩

set_option maxRecDepth 100000 in
theorem lifted (os : Os) (started : os.Started) (H : Type) (enc : TypeId × Value → H) (F : Stop.Interp) :
    ReturnsInHanded {} Tryd.checked os 4 .any ((OpenSpec.ofChange Rows.fnExactReadPlanSpec).preRow enc Tryd.prog Tryd.f4 Rows.fnExactReadPlanRow.domain false Rows.fnExactReadPlanRow.laid) (((OpenSpec.ofChange Rows.fnExactReadPlanSpec).at F).post enc Tryd.prog Tryd.f4 false true false false) := by
  obtain ⟨ds, gs, places, hx⟩ := reads os enc
  refine returnsInHanded_of_row (C := Tryd.checked) (s := OpenSpec.ofChange Rows.fnExactReadPlanSpec) own started (by kernel_rfl) Tryd.func4
    (witness_row_atRef (enc := enc) (C := Tryd.checked) false (laidWorld os) #[.string ByteArray.empty] rfl (by kernel_rfl) (by kernel_rfl) (by kernel_rfl)
      (OpenSpec.preRow_of_cond 8 hx (by kernel_rfl) (fun k hk => by cases hk) (by kernel_rfl) (laid_met os))) ?_
  intro W base args ds gs before hval hW _ _ _ hL hSO _
  exact contract H enc W base args ds gs before hval hW hL hSO

theorem said : Rows.FnExactReadPlanSaid :=
  OpenClaim.holds_of_cond 4 Tryd.f4 rfl rfl rfl rfl rfl rfl rfl ⟨rfl, rfl, rfl, rfl, rfl⟩ rfl rfl rfl rfl rfl (by kernel_rfl) Tryd.func4 (by kernel_rfl)
    (of_decide_eq_true (by kernel_rfl)) (by unfold Func.isWrapper; first | (rw [if_pos (by decide +kernel)]; kernel_rfl) | (rw [if_neg (by decide +kernel)]; exact ⟨rfl, rfl⟩))
    (fun os started H enc _ F => by rw [OpenClaim.pre_eq_preRow]; exact lifted os started H enc F)

theorem plain (f : FuncId) (fn : Func) (hf : Tryd.pinned.checked.prog.funcNamed "loop.example/kiln/laws.FnExactReadPlan" = some f) (hfn : Tryd.pinned.checked.prog.funcs[f]? = some fn) :
    true = Tryd.pinned.checked.prog.looks [] ∧ ∀ (j : Nat) t, fn.params[j]? = some t → Tryd.pinned.checked.prog.wantsStandIn t = false := by
  obtain rfl : f = 4 := Option.some.inj ((show Tryd.prog.funcNamed "loop.example/kiln/laws.FnExactReadPlan" = some 4 by kernel_rfl).symm.trans hf) |>.symm
  obtain rfl : fn = Tryd.f4 := (Option.some.inj (Tryd.func4.symm.trans hfn)).symm
  refine ⟨by kernel_rfl, fun j t ht => ?_⟩
  rw [Tryd.params4] at ht
  obtain rfl : t = 9 := by simpa using Array.mem_of_getElem? ht
  exact (show Tryd.prog.wantsStandIn 9 = false by kernel_rfl)

theorem card : Rows.FnExactReadPlanCardSaid :=
  Claim7.holds_tied_plain_at .later [] _ _ _ _ said (fun _ h => by cases h) (by kernel_rfl) (fun _ h => by cases h) fnExactReadPlan_row_tie rfl ⟨rfl, rfl⟩ (by kernel_rfl) rfl plain (by kernel_rfl)
end Go.Proofs.YtjcgimlpnmbbbaaDoor.fnExactReadPlan
namespace Go.Proofs.YtjcgimlpnmbbbaaDoor
theorem fnExactReadPlan_holds : Rows.FnExactReadPlanCardSaid := fnExactReadPlan.card
#print axioms fnExactReadPlan_holds
end Go.Proofs.YtjcgimlpnmbbbaaDoor
