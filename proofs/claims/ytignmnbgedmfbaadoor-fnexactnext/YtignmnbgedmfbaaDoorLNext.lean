import Derived.Test.YtignmnbgedmfbaaDoorNI
import Derived.Test.YtignmnbgedmfbaaDoorT12
import Derived.Test.YtignmnbgedmfbaaDoorCards
import Derived.Test.YtignmnbgedmfbaaDoorTie
import Derived.Deep.DeepHandedRow
import Derived.SevenTiedAt
import Derived.Shelf.Vars
import Derived.ShutString
namespace Go.Proofs.YtignmnbgedmfbaaDoor.fnExactNext
open Go.ChangeShapes Go.WideShapes Go.ChangeAt Go.RowKit
open Go.ChangeMaps (open_string shut_string)
set_option linter.unusedVariables false

theorem cells98 : Tryd.prog.cellsOf 98 = 2 := by kernel_rfl
theorem list2 {α : Type} {l : List α} (h : l.length = 2) : ∃ a b, l = [a, b] := by
  rcases l with _ | ⟨a, _ | ⟨b, _ | ⟨c, l⟩⟩⟩
  · cases h
  · cases h
  · exact ⟨a, b, rfl⟩
  · simp at h
theorem res_cells {H : Type} {enc : TypeId × Value → H} {w : World} {base : Nat} {sp : Nat → Bool} {held : Bool} {fuel : Nat} {cs : List Value} {y : DataW H × List MemPlace}
    (h : DataW.trod enc Tryd.prog w base sp held fuel 98 cs = some y) : ∃ x : R2, cs = [.int .i64 x.code, .string x.tx] ∧ x.tx.size ≤ maxLen := by
  obtain ⟨y0, y1, n, hx, hlen, h0, h1⟩ := trod_struct2 Tryd.underlying98 h
  rw [cells98] at hlen
  obtain ⟨c0, c1, rfl⟩ := list2 hlen
  simp only [cells9, cells3] at h0 h1
  obtain ⟨c, e0, _, _⟩ := DataW.trod_int Tryd.underlying3 h0
  obtain ⟨s, e1, _, hs⟩ := DataW.trod_string Tryd.underlying9 h1
  simp at e0 e1
  exact ⟨⟨c, s⟩, by rw [e0, e1], hs⟩
/-- A slice of results that came in. -/
theorem opened2 {H : Type} {enc : TypeId × Value → H} {W : World} {fuel : Nat} {cs : List Value} {y : DataW H × List MemPlace}
    (hf : DataW.trod enc Tryd.prog W 0 (fun _ => true) true fuel 47 cs = some y) :
    ∃ (a : Option Addr) (cap : Nat) (is : List R2), cs = [.slice a is.length cap] ∧ is.length ≤ maxLen ∧ (∀ i, (is.getD i r2z).tx.size ≤ maxLen) ∧ ResAt W a is := by
  rcases Go.Deep.open_slice Tryd.underlying47 hf with ⟨rfl, _⟩ | ⟨a, len, cap, m, n, D, Pl, rfl, _, hl, hm, hmm, _, hx⟩
  · exact ⟨none, 0, [], rfl, Nat.zero_le _, fun i => by simp [r2z, ByteArray.size], .inl rfl⟩
  · simp only [if_true] at hmm
    subst hmm
    have hex : ∀ i, i < m → ∃ x : R2, W.cells? 0 (a.add (i * 2)) 2 = some [.int .i64 x.code, .string x.tx] ∧ x.tx.size ≤ maxLen := fun i hi => by
      obtain ⟨cs', h1, h2⟩ := hx i hi
      obtain ⟨x, rfl, hs⟩ := res_cells h2
      rw [cells98] at h1
      exact ⟨x, h1, hs⟩
    obtain ⟨V, hV⟩ := @Go.Deep.choose_lt R2 ⟨r2z⟩ m (fun i x => W.cells? 0 (a.add (i * 2)) 2 = some [.int .i64 x.code, .string x.tx] ∧ x.tx.size ≤ maxLen) hex
    have hlen : ((List.range len).map V).length = len := by simp
    have hget : ∀ i, i < len → ((List.range len).map V).getD i r2z = V i := fun i hi => by simp [List.getD, hi]
    refine ⟨some a, m, (List.range len).map V, by rw [hlen], by rw [hlen]; omega, getD_small2 (fun i hi => ?_), ?_⟩
    · rw [hlen] at hi
      rw [hget i hi]
      exact (hV i (by omega)).2
    · rcases Nat.eq_zero_or_pos len with h0 | h0
      · exact .inl (by rw [h0]; rfl)
      · obtain ⟨b, off, spot⟩ := a
        obtain ⟨_, _, hc⟩ := World.cells?_some (hV 0 (by omega)).1
        have hc0 := hc 0 (by omega)
        have hspot : spot = none := by simpa [Addr.add] using World.cell?_spot hc0
        subst hspot
        refine .inr ⟨b, off, rfl, ?_, fun i hi => ?_⟩
        · rw [add_none, add_none] at hc0
          rcases Nat.lt_or_ge b W.heap.size with h | h
          · exact h
          · simp [World.cell?, Array.getElem?_eq_none h] at hc0
        · rw [hlen] at hi
          rw [hget i hi]
          obtain ⟨_, _, hc⟩ := World.cells?_some (hV i (by omega)).1
          have e0 := hc 0 (by omega)
          have e1 := hc 1 (by omega)
          rw [add_none, add_none] at e0 e1
          exact ⟨e0, e1⟩
theorem max_of_shaped {w : World} (h : w.ShapedOpen Tryd.prog) : MaxAt w := by
  obtain ⟨m, hm⟩ := Go.Proofs.cell_of_shapedOpen_int (g := 1) (zero := #[.int .i64 0]) (t := 3) h (of_decide_eq_true (by kernel_rfl)) (by kernel_rfl) rfl (by kernel_rfl) (by kernel_rfl) Tryd.underlying3
  refine ⟨?_, m, hm⟩
  rcases Nat.lt_or_ge 1 w.heap.size with h1 | h1
  · exact h1
  · simp [World.cell?, Array.getElem?_eq_none h1] at hm
/-- The cells that a table's datum is. -/
def cell1 : DataW Unit → Value
  | .lit (.int k n) => .int k n
  | .lit (.bool b) => .bool b
  | .lit (.string l) => .string ⟨l.toArray⟩
  | _ => .bool false
def cells1 : DataW Unit → List Value
  | .agg es => es.map cell1
  | d => [cell1 d]
def cells2 : DataW Unit → Array Value
  | .agg ds => (ds.flatMap cells1).toArray
  | _ => #[]
theorem own : ownKnob Tryd.prog.godebug = none := by kernel_rfl

set_option maxHeartbeats 1000000 in
set_option maxRecDepth 100000 in
theorem contract (H : Type) (enc : TypeId × Value → H) (W : World) (base : Nat) (args : Array Value) (ds gs : List (DataW H)) (before : List MemPlace)
    (hval : ∀ (j : Nat) t v, Tryd.f6.params[j]? = some t → args[j]? = some v → Value.okWide Tryd.prog W .any base t v)
    (hW : DataW.Whole enc Tryd.prog Tryd.f6.params.toList Rows.fnExactNextSpec.vars false W args.toList ds gs before) (hL : laidMetH Tryd.prog Rows.fnExactNextRow.laid W) (hSO : W.ShapedOpen Tryd.prog) :
    Calls Tryd.prog 6 args W fun e W' => ∃ v, e = .returned v ∧ Rows.fnExactNextSpec.post enc Tryd.prog Tryd.f6 false true false false W args v W' := by
  have hsh : ShapesAt W := by
    have hL' : laidMet Tryd.prog Rows.fnExactNextRow.laid W := hL
    exact shapes_of_reads (Go.Lib.laidMet.reads hL' (by simp [Rows.fnExactNextRow]))
  have hmx : MaxAt W := max_of_shaped hSO
  have hW' := hW
  obtain ⟨p, q, hA0, hV, rfl, hfz, hnd⟩ := hW
  have hA : DataW.TrodAll enc Tryd.prog W 0 (fun _ => true) true Tryd.f6.params.toList args.toList ds p := hA0
  rw [Tryd.params6] at hA hval
  obtain ⟨v0, vs0, d0, ds0, p0, q0, hargs, rfl, rfl, h0, r0⟩ := trodAll_cons hA
  obtain ⟨v1, vs1, d1, ds1, p1, q1, rfl, rfl, rfl, h1, r1⟩ := trodAll_cons r0
  obtain ⟨v2, vs2, d2, ds2, p2, q2, rfl, rfl, rfl, h2, r2⟩ := trodAll_cons r1
  obtain ⟨rfl, rfl, rfl⟩ := trodAll_nil r2
  obtain rfl : args = #[v0, v1, v2] := Array.ext' hargs
  have hV1 := hV
  obtain ⟨g1, t1, cs1, fuel1, dv, pv, rfl, hv1, hv2, hv3, hv4, rfl⟩ := trodVars_one hV
  have k0 := h0
  have lt0 : ∀ x ∈ p0, x.block < W.heap.size := by obtain ⟨m, hm⟩ := k0; exact DataW.trod_lt m _ _ _ hm
  obtain ⟨cs, rfl, hsz⟩ := okWide_struct Tryd.underlying24 (hval 0 24 v0 rfl rfl)
  obtain ⟨fuel, hf⟩ := h0
  obtain ⟨y0, n, _, hlen, hy⟩ := trod_struct1 Tryd.underlying24 hf
  rw [cells24] at hsz
  obtain ⟨c0, rfl⟩ : ∃ c, cs = #[c] := Array.size_eq_one_iff.1 hsz
  simp only [cells22] at hy
  obtain ⟨a, cap, is, hcs, hl, hs, hat⟩ := opened hy
  simp [Value.cells] at hcs
  subst hcs
  obtain ⟨a1, rfl, rfl, rfl, w1⟩ := open_string Tryd.underlying9 (hval 1 9 v1 rfl rfl) h1
  have k2 := h2
  have lt2 : ∀ x ∈ p2, x.block < W.heap.size := by obtain ⟨m, hm⟩ := k2; exact DataW.trod_lt m _ _ _ hm
  obtain ⟨fuel2, hf2⟩ := h2
  obtain ⟨a2, cap2, rs, hcs2, hl2, hs2, hat2⟩ := opened2 hf2
  obtain ⟨a9, len9, cap9, rfl⟩ := okWide_slice Tryd.underlying47 (hval 2 47 v2 rfl rfl)
  have e9 : Value.slice a9 len9 cap9 = .slice a2 rs.length cap2 := by simpa [Value.cells] using hcs2
  injection e9 with e1 e2 e3
  subst e1 e2 e3
  clear hA0
  unfold maxLen at hl hl2 w1
  refine (c6 a cap is a1 _ _ rs W (fun i => by have := hs i; unfold maxLen at this; omega) (by omega) (by omega) (fun i => by have := hs2 i; unfold maxLen at this; omega) (by omega) hat hat2 hsh hmx).mono fun e W' ⟨he, bel⟩ => ?_
  subst he
  exact ⟨_, rfl, _, _, _, [], _, _, hW', trodAll_mk1 (shut_bool Tryd.underlying4 _), (trodAll_cons_mk (Below.trod laidOut (by kernel_rfl) (of_decide_eq_true (by kernel_rfl)) k0 bel lt0) (trodAll_cons_mk (shut_string Tryd.underlying9 (by unfold maxLen; omega)) (trodAll_cons_mk (Below.trod laidOut (by kernel_rfl) (of_decide_eq_true (by kernel_rfl)) k2 bel lt2) trodAll_mk0))), Below.trodVars laidOut bel (by kernel_rfl) hV1, bel.frame _, fun h => by cases h⟩

/-- A world for the witness: the settled one, the listed tables holding what their initialisers lay. -/
def withTab (g : Nat) (t : Array Value) (w : World) : World := { w with heap := w.heap.modify g fun
      | .cells _ ty frozen => .cells t ty frozen
      | o => o }
noncomputable def laidWorld (os : Os) : World := withTab 6 (cells2 Rows.laid_math_bits_deBruijn64tab) (withTab 5 (cells2 Rows.laid_math_bits_deBruijn32tab) (withTab 2 (cells2 Rows.laid_internal_strconv_uint64pow10) (withTab 3 (cells2 Rows.laid_unicode_utf8_first) (withTab 4 (cells2 Rows.laid_unicode_utf8_acceptRanges) (withTab 0 (cells2 Rows.laid_loop_example_kiln_impl_shapes) (World.holding Tryd.prog os ⟨#[], #[], []⟩))))))
set_option maxRecDepth 100000 in
theorem laid_met (os : Os) : laidMet Tryd.prog Rows.fnExactNextRow.laid ((laidWorld os).forCall (fun _ _ => 0) ⟨#[], #[.agg #[.slice none 0 0], .string ByteArray.empty, .slice none 0 0], []⟩).memory :=
  laidMet_of_run' 8 (by kernel_rfl) (by kernel_rfl)
set_option maxRecDepth 100000 in
theorem reads (os : Os) {H : Type} (enc : TypeId × Value → H) : ∃ places, DataW.whole enc Tryd.prog ((laidWorld os).forCall (fun _ _ => 0) ⟨#[], #[.agg #[.slice none 0 0], .string ByteArray.empty, .slice none 0 0], []⟩).memory Tryd.f6.params.toList Rows.fnExactNextSpec.vars false #[Value.agg #[.slice none 0 0], .string ByteArray.empty, .slice none 0 0].toList 8 = some ([.agg [.nil], .lit (.string []), .nil], [Rows.laid_loop_example_kiln_impl_shapes], places) := by
  have h : (DataW.whole enc Tryd.prog ((laidWorld os).forCall (fun _ _ => 0) ⟨#[], #[.agg #[.slice none 0 0], .string ByteArray.empty, .slice none 0 0], []⟩).memory Tryd.f6.params.toList Rows.fnExactNextSpec.vars false #[Value.agg #[.slice none 0 0], .string ByteArray.empty, .slice none 0 0].toList 8).map (fun x => (x.1, x.2.1)) = some ([.agg [.nil], .lit (.string []), .nil], [Rows.laid_loop_example_kiln_impl_shapes]) := by kernel_rfl
  obtain ⟨⟨a, b, c⟩, e, h2⟩ := Option.map_eq_some_iff.1 h
  obtain ⟨rfl, rfl⟩ := Prod.mk.inj h2
  exact ⟨c, e⟩

set_option maxRecDepth 100000 in
theorem lifted (os : Os) (started : os.Started) (H : Type) (enc : TypeId × Value → H) (F : Stop.Interp) :
    ReturnsInHanded {} Tryd.checked os 6 .any ((OpenSpec.ofChange Rows.fnExactNextSpec).preRow enc Tryd.prog Tryd.f6 Rows.fnExactNextRow.domain false Rows.fnExactNextRow.laid) (((OpenSpec.ofChange Rows.fnExactNextSpec).at F).post enc Tryd.prog Tryd.f6 false true false false) := by
  obtain ⟨places, hx⟩ := reads os enc
  refine returnsInHanded_of_row (C := Tryd.checked) (s := OpenSpec.ofChange Rows.fnExactNextSpec) own started (by kernel_rfl) Tryd.func6
    (witness_row_at (enc := enc) (C := Tryd.checked) false (laidWorld os) #[.agg #[.slice none 0 0], .string ByteArray.empty, .slice none 0 0] rfl (by kernel_rfl) (by kernel_rfl) (by kernel_rfl)
      (OpenSpec.preRow_of_cond 8 hx (by kernel_rfl) (fun k hk => by cases hk) (by kernel_rfl) (laid_met os))) ?_
  intro W base args ds gs before hval hW _ _ _ hL hSO _
  exact contract H enc W base args ds gs before hval hW hL hSO

theorem said : Rows.FnExactNextSaid :=
  OpenClaim.holds_of_cond 6 Tryd.f6 rfl rfl rfl rfl rfl rfl rfl ⟨rfl, rfl, rfl, rfl, rfl⟩ rfl rfl rfl rfl rfl (by kernel_rfl) Tryd.func6 (by kernel_rfl)
    (of_decide_eq_true (by kernel_rfl)) (by unfold Func.isWrapper; first | (rw [if_pos (by decide +kernel)]; kernel_rfl) | (rw [if_neg (by decide +kernel)]; exact ⟨rfl, rfl⟩))
    (fun os started H enc _ F => by rw [OpenClaim.pre_eq_preRow]; exact lifted os started H enc F)

theorem plain (f : FuncId) (fn : Func) (hf : Tryd.pinned.checked.prog.funcNamed "loop.example/kiln/laws.FnExactNext" = some f) (hfn : Tryd.pinned.checked.prog.funcs[f]? = some fn) :
    false = Tryd.pinned.checked.prog.looks [] ∧ ∀ (j : Nat) t, fn.params[j]? = some t → Tryd.pinned.checked.prog.wantsStandIn t = false := by
  obtain rfl : f = 6 := Option.some.inj ((show Tryd.prog.funcNamed "loop.example/kiln/laws.FnExactNext" = some 6 by kernel_rfl).symm.trans hf) |>.symm
  obtain rfl : fn = Tryd.f6 := (Option.some.inj (Tryd.func6.symm.trans hfn)).symm
  refine ⟨by kernel_rfl, fun j t ht => ?_⟩
  rw [Tryd.params6] at ht
  obtain rfl | rfl | rfl : t = 24 ∨ t = 9 ∨ t = 47 := by simpa using Array.mem_of_getElem? ht
  · exact (show Tryd.prog.wantsStandIn 24 = false by kernel_rfl)
  · exact (show Tryd.prog.wantsStandIn 9 = false by kernel_rfl)
  · exact (show Tryd.prog.wantsStandIn 47 = false by kernel_rfl)

theorem card : Rows.FnExactNextCardSaid :=
  Claim7.holds_tied_plain_at .later [] _ _ _ _ said (fun _ h => by cases h) (by kernel_rfl) (fun _ h => by cases h) fnExactNext_row_tie rfl ⟨rfl, rfl⟩ (by kernel_rfl) rfl plain (by kernel_rfl)
end Go.Proofs.YtignmnbgedmfbaaDoor.fnExactNext
namespace Go.Proofs.YtignmnbgedmfbaaDoor
theorem fnExactNext_holds : Rows.FnExactNextCardSaid := fnExactNext.card
#print axioms fnExactNext_holds
end Go.Proofs.YtignmnbgedmfbaaDoor
