import Derived.Test.YtjcgimlpnmbbbaaDoorPA
import Derived.Test.YtjcgimlpnmbbbaaDoorCards
import Derived.Test.YtjcgimlpnmbbbaaDoorTie
import Derived.Lib.LaidU8
import Derived.MakeChecks
import Derived.OpenShut
import Derived.Deep.Strs
import Derived.Deep.Slices
import Derived.OpenVars
import Derived.ProofKit
import Derived.Deep.DeepHandedRow
import Derived.SevenTiedAt
namespace Go.Proofs.YtjcgimlpnmbbbaaDoor
open Go.ChangeShapes Go.WideShapes Go.ChangeAt Go.RowKit
set_option linter.unusedVariables false

theorem cells35 : Tryd.prog.cellsOf 35 = 3 := by kernel_rfl
theorem cells9 : Tryd.prog.cellsOf 9 = 1 := by kernel_rfl
theorem laidOut : laidOutB Tryd.prog = true := by kernel_rfl
theorem list3 {α : Type} {l : List α} (h : l.length = 3) : ∃ a b c, l = [a, b, c] := by
  rcases l with _ | ⟨a, _ | ⟨b, _ | ⟨c, _ | ⟨d, r⟩⟩⟩⟩ <;> simp at h
  exact ⟨a, b, c, rfl⟩

theorem mk_cells {H : Type} {enc : TypeId × Value → H} {w : World} {base : Nat} {sp : Nat → Bool} {held : Bool} {fuel : Nat} {cs : List Value} {y : DataW H × List MemPlace}
    (h : DataW.trod enc Tryd.prog w base sp held fuel 35 cs = some y) : ∃ x : M3, cs = [.string x.nm, .string x.tl, .string x.ar] ∧ x.le maxLen := by
  obtain ⟨y0, y1, y2, n, hx, hlen, h0, h1, h2⟩ := Go.Deep.trod_struct3 Tryd.underlying35 h
  rw [cells35] at hlen
  obtain ⟨c0, c1, c2, rfl⟩ := list3 hlen
  simp only [cells9] at h0 h1 h2
  obtain ⟨s0, e0, _, hs0⟩ := DataW.trod_string Tryd.underlying9 h0
  obtain ⟨s1, e1, _, hs1⟩ := DataW.trod_string Tryd.underlying9 h1
  obtain ⟨s2, e2, _, hs2⟩ := DataW.trod_string Tryd.underlying9 h2
  simp at e0 e1 e2
  exact ⟨⟨s0, s1, s2⟩, by rw [e0, e1, e2], hs0, hs1, hs2⟩
theorem add_none (b off i : Nat) : (⟨b, off, none⟩ : Addr).add i = ⟨b, off + i, none⟩ := by unfold Addr.add; split <;> simp_all

/-- A slice of makes that came in. -/
theorem opened {H : Type} {enc : TypeId × Value → H} {W : World} {fuel : Nat} {cs : List Value} {y : DataW H × List MemPlace}
    (hf : DataW.trod enc Tryd.prog W 0 (fun _ => true) true fuel 22 cs = some y) :
    ∃ (a : Option Addr) (cap : Nat) (is : List M3), cs = [.slice a is.length cap] ∧ is.length ≤ maxLen ∧ (∀ i, (is.getD i m3z).le maxLen) ∧ MksAt W a is := by
  rcases Go.Deep.open_slice Tryd.underlying22 hf with ⟨rfl, _⟩ | ⟨a, len, cap, m, n, D, Pl, rfl, _, hl, hm, hmm, _, hx⟩
  · exact ⟨none, 0, [], rfl, Nat.zero_le _, fun i => ⟨Nat.zero_le _, Nat.zero_le _, Nat.zero_le _⟩, .inl rfl⟩
  · simp only [if_true] at hmm
    subst hmm
    have hex : ∀ i, i < m → ∃ x : M3, W.cells? 0 (a.add (i * 3)) 3 = some [.string x.nm, .string x.tl, .string x.ar] ∧ x.le maxLen := fun i hi => by
      obtain ⟨cs', h1, h2⟩ := hx i hi
      obtain ⟨x, rfl, hs⟩ := mk_cells h2
      rw [cells35] at h1
      exact ⟨x, h1, hs⟩
    obtain ⟨V, hV⟩ := @Go.Deep.choose_lt M3 ⟨m3z⟩ m (fun i x => W.cells? 0 (a.add (i * 3)) 3 = some [.string x.nm, .string x.tl, .string x.ar] ∧ x.le maxLen) hex
    have hlen : ((List.range len).map V).length = len := by simp
    have hget : ∀ i, i < len → ((List.range len).map V).getD i m3z = V i := fun i hi => by simp [List.getD, hi]
    refine ⟨some a, m, (List.range len).map V, by rw [hlen], by rw [hlen]; omega, getD_smallM (fun i hi => ?_), ?_⟩
    · rw [hlen] at hi
      rw [hget i hi]
      exact (hV i (by omega)).2
    · rcases Nat.eq_zero_or_pos len with h0 | h0
      · exact .inl (by rw [h0]; rfl)
      · obtain ⟨b, off, spot⟩ := a
        obtain ⟨_, _, hc⟩ := World.cells?_some (hV 0 (by omega)).1
        have hc0 := hc 0 (by omega)
        have hspot : spot = none := by simpa [Addr.add] using World.cell?_spot hc0
        subst hspot
        refine .inr ⟨b, off, rfl, ?_, fun i hi => ?_⟩
        · rw [add_none, add_none] at hc0
          rcases Nat.lt_or_ge b W.heap.size with h | h
          · exact h
          · simp [World.cell?, Array.getElem?_eq_none h] at hc0
        · rw [hlen] at hi
          rw [hget i hi]
          obtain ⟨_, _, hc⟩ := World.cells?_some (hV i (by omega)).1
          have e0 := hc 0 (by omega)
          have e1 := hc 1 (by omega)
          have e2 := hc 2 (by omega)
          rw [add_none, add_none] at e0 e1 e2
          exact ⟨e0, e1, e2⟩

theorem et : Tryd.prog.globalNamed "errors.errorType" = some 6 := by kernel_rfl
theorem gMany : Tryd.prog.globalNamed "loop.example/kiln/impl.errMany" = some 0 := by kernel_rfl
theorem gMake : Tryd.prog.globalNamed "loop.example/kiln/impl.errMake" = some 1 := by kernel_rfl
theorem gOrder : Tryd.prog.globalNamed "loop.example/kiln/impl.errOrder" = some 2 := by kernel_rfl
theorem tMany : (Tryd.prog.globals[0]?).map (·.type) = some 42 := by kernel_rfl
theorem tMake : (Tryd.prog.globals[1]?).map (·.type) = some 42 := by kernel_rfl
theorem tOrder : (Tryd.prog.globals[2]?).map (·.type) = some 42 := by kernel_rfl
theorem rt : (Tryd.prog.cutTypes.find? (·.1 == "internal/reflectlite.rtype")).map (·.2) = some 96 := by kernel_rfl
theorem oneRow : ((List.range 153).filter fun t => Tryd.prog.rowNamed t [101, 114, 114, 111, 114]) = [42] := by kernel_rfl
theorem tsize : Tryd.prog.types.size = 153 := by kernel_rfl
theorem iface_of_trod {H : Type} {enc : TypeId × Value → H} {W : World} {fuel : Nat} {cs : List Value} {nm : String} {d : DataW H} {p : List MemPlace}
    (h : DataW.trod enc Tryd.prog W 0 (fun _ => true) false fuel 42 cs = some (.iface nm d, p)) : ∃ u v, cs = [.iface u v] := by
  cases fuel with
  | zero => simp [DataW.trod] at h
  | succ m =>
    rcases cs with _ | ⟨c, _ | ⟨c', r⟩⟩
    · simp [DataW.trod, Tryd.underlying42] at h
    · cases c <;> first | exact ⟨_, _, rfl⟩ | simp [DataW.trod, Tryd.underlying42] at h
    · cases c <;> simp [DataW.trod, Tryd.underlying42] at h
theorem var_iface {W : World} {n : String} {g : Nat} {cs : Array Value} {fuel : Nat} {nm : String} {d : DataW Unit} {p : List MemPlace} (hg : Tryd.prog.globalNamed n = some g) (hv : W.var? Tryd.prog n = some cs)
    (h : DataW.trod (fun _ => ()) Tryd.prog W 0 (fun _ => true) false fuel 42 cs.toList = some (.iface nm d, p)) : ∃ t v, W.cell? ⟨g, 0, none⟩ = some (.iface t v) := by
  obtain ⟨u, v, e⟩ := iface_of_trod h
  have := World.var?_cell hg hv 0
  rw [Array.eq_one_of_toList e] at this
  exact ⟨u, v, by simpa using this⟩

theorem vars_of_laid {W : World} (h : laidMetH Tryd.prog Rows.fnExactFormPlanRow.laid W) : VarsAt W := by
  have h' : laidMet Tryd.prog [("loop.example/kiln/impl.errMake", Rows.laid_loop_example_kiln_impl_errMake), ("loop.example/kiln/impl.errMany", Rows.laid_loop_example_kiln_impl_errMany), ("loop.example/kiln/impl.errOrder", Rows.laid_loop_example_kiln_impl_errOrder)] W ∧ handlesMet Tryd.prog [("errors.errorType", Rows.laid_errors_errorType)] W := h
  obtain ⟨hp, hh⟩ := h'
  obtain ⟨ps, ⟨g1, t1, cs1, f1, p1, q1, hg1, ht1, hv1, hd1, ⟨g2, t2, cs2, f2, p2, q2, hg2, ht2, hv2, hd2, ⟨g3, t3, cs3, f3, p3, q3, hg3, ht3, hv3, hd3, _, _⟩, _⟩, _⟩, _, _⟩ := hp
  obtain rfl := Option.some.inj (gMake.symm.trans hg1)
  obtain rfl := Option.some.inj (tMake.symm.trans ht1)
  obtain rfl := Option.some.inj (gMany.symm.trans hg2)
  obtain rfl := Option.some.inj (tMany.symm.trans ht2)
  obtain rfl := Option.some.inj (gOrder.symm.trans hg3)
  obtain rfl := Option.some.inj (tOrder.symm.trans ht3)
  refine ⟨var_iface hg2 hv2 hd2, var_iface hg1 hv1 hd1, var_iface hg3 hv3 hd3, ?_⟩
  obtain ⟨name, u, ty, e1, e2, e3, e4, e5⟩ := hh _ (List.mem_singleton.2 rfl)
  have en : name = [101, 114, 114, 111, 114] := (Option.some.inj e1).symm
  subst en
  obtain rfl := Option.some.inj (rt.symm.trans e2)
  have hm : ty ∈ (List.range 153).filter fun t => Tryd.prog.rowNamed t [101, 114, 114, 111, 114] := List.mem_filter.2 ⟨List.mem_range.2 (by rw [← tsize]; exact e3), e4⟩
  rw [oneRow] at hm
  obtain rfl := List.mem_singleton.1 hm
  have hh : typeHandle Tryd.prog 42 = .pointer (some ⟨10, 42, none⟩) := by kernel_rfl
  rw [hh] at e5
  simpa using World.var?_cell et e5 0
end Go.Proofs.YtjcgimlpnmbbbaaDoor
