import Derived.Test.YtafneponofcdeaaD8
import Derived.WalkKit
import Derived.ProofKit
import Derived.OpenShut
import Derived.ShutString
import Derived.ChangeOld
import Derived.SliceStrings
import Derived.Deep.Strs
import Derived.Deep.Slices
import Derived.OpenVars
import Derived.HandedShaped
import Derived.Shelf.Vars
import Derived.Deep.DeepHandedRow
namespace Go.Proofs.Ytafneponofcdeaa
open Go.ChangeShapes Go.WideShapes Go.ChangeAt Go.RowKit
open Go.ChangeMaps (open_string shut_string)
set_option linter.unusedVariables false
theorem cells86 : Try.prog.cellsOf 86 = 3 := by kernel_rfl
theorem cells65 : Try.prog.cellsOf 65 = 3 := by kernel_rfl
theorem cells31 : Try.prog.cellsOf 31 = 3 := by kernel_rfl
theorem cells9 : Try.prog.cellsOf 9 = 1 := by kernel_rfl
theorem cells4 : Try.prog.cellsOf 4 = 1 := by kernel_rfl
theorem cells3 : Try.prog.cellsOf 3 = 1 := by kernel_rfl
theorem cells63 : Try.prog.cellsOf 63 = 1 := by kernel_rfl
theorem cells28 : Try.prog.cellsOf 28 = 1 := by kernel_rfl
theorem cells29 : Try.prog.cellsOf 29 = 1 := by kernel_rfl
theorem list3 {α : Type} {l : List α} (h : l.length = 3) : ∃ a b c, l = [a, b, c] := by
  rcases l with _ | ⟨a, _ | ⟨b, _ | ⟨c, _ | ⟨d, r⟩⟩⟩⟩ <;> simp at h
  exact ⟨a, b, c, rfl⟩


theorem gl_cells {H : Type} {enc : TypeId × Value → H} {w : World} {base : Nat} {sp : Nat → Bool} {held : Bool} {fuel : Nat} {cs : List Value} {y : DataW H × List MemPlace}
    (h : DataW.trod enc Try.prog w base sp held fuel 86 cs = some y) : ∃ x : G3, cs = [.bool x.nm, .string x.tl, .string x.ar] ∧ x.le maxLen := by
  obtain ⟨y0, y1, y2, n, hx, hlen, h0, h1, h2⟩ := Go.Deep.trod_struct3 Try.underlying86 h
  rw [cells86] at hlen
  obtain ⟨c0, c1, c2, rfl⟩ := list3 hlen
  simp only [cells9, cells4] at h0 h1 h2
  obtain ⟨s0, e0, _⟩ := DataW.trod_bool Try.underlying4 h0
  obtain ⟨s1, e1, _, hs1⟩ := DataW.trod_string Try.underlying9 h1
  obtain ⟨s2, e2, _, hs2⟩ := DataW.trod_string Try.underlying9 h2
  simp at e0 e1 e2
  exact ⟨⟨s0, s1, s2⟩, by rw [e0, e1, e2], hs1, hs2⟩
theorem add_none (b off i : Nat) : (⟨b, off, none⟩ : Addr).add i = ⟨b, off + i, none⟩ := by unfold Addr.add; split <;> simp_all

/-- A slice of glances that came in. -/
theorem openedG {H : Type} {enc : TypeId × Value → H} {W : World} {fuel : Nat} {cs : List Value} {y : DataW H × List MemPlace}
    (hf : DataW.trod enc Try.prog W 0 (fun _ => true) true fuel 63 cs = some y) :
    ∃ (a : Option Addr) (cap : Nat) (is : List G3), cs = [.slice a is.length cap] ∧ is.length ≤ maxLen ∧ (∀ i, (is.getD i g3z).le maxLen) ∧ GlsAt W a is := by
  rcases Go.Deep.open_slice Try.underlying63 hf with ⟨rfl, _⟩ | ⟨a, len, cap, m, n, D, Pl, rfl, _, hl, hm, hmm, _, hx⟩
  · exact ⟨none, 0, [], rfl, Nat.zero_le _, fun i => ⟨Nat.zero_le _, Nat.zero_le _⟩, .inl rfl⟩
  · simp only [if_true] at hmm
    subst hmm
    have hex : ∀ i, i < m → ∃ x : G3, W.cells? 0 (a.add (i * 3)) 3 = some [.bool x.nm, .string x.tl, .string x.ar] ∧ x.le maxLen := fun i hi => by
      obtain ⟨cs', h1, h2⟩ := hx i hi
      obtain ⟨x, rfl, hs⟩ := gl_cells h2
      rw [cells86] at h1
      exact ⟨x, h1, hs⟩
    obtain ⟨V, hV⟩ := @Go.Deep.choose_lt G3 ⟨g3z⟩ m (fun i x => W.cells? 0 (a.add (i * 3)) 3 = some [.bool x.nm, .string x.tl, .string x.ar] ∧ x.le maxLen) hex
    have hlen : ((List.range len).map V).length = len := by simp
    have hget : ∀ i, i < len → ((List.range len).map V).getD i g3z = V i := fun i hi => by simp [List.getD, hi]
    refine ⟨some a, m, (List.range len).map V, by rw [hlen], by rw [hlen]; omega, getD_smallG (fun i hi => ?_), ?_⟩
    · rw [hlen] at hi
      rw [hget i hi]
      exact (hV i (by omega)).2
    · rcases Nat.eq_zero_or_pos len with h0 | h0
      · exact .inl (by rw [h0]; rfl)
      · obtain ⟨b, off, spot⟩ := a
        obtain ⟨_, _, hc⟩ := World.cells?_some (hV 0 (by omega)).1
        have hc0 := hc 0 (by omega)
        have hspot : spot = none := by simpa [Addr.add] using World.cell?_spot hc0
        subst hspot
        refine .inr ⟨b, off, rfl, ?_, fun i hi => ?_⟩
        · rw [add_none, add_none] at hc0
          rcases Nat.lt_or_ge b W.heap.size with h | h
          · exact h
          · simp [World.cell?, Array.getElem?_eq_none h] at hc0
        · rw [hlen] at hi
          rw [hget i hi]
          obtain ⟨_, _, hc⟩ := World.cells?_some (hV i (by omega)).1
          have e0 := hc 0 (by omega)
          have e1 := hc 1 (by omega)
          have e2 := hc 2 (by omega)
          rw [add_none, add_none] at e0 e1 e2
          exact ⟨e0, e1, e2⟩


theorem rec_cells {H : Type} {enc : TypeId × Value → H} {W : World} {fuel : Nat} {cs : List Value} {y : DataW H × List MemPlace}
    (h : DataW.trod enc Try.prog W 0 (fun _ => true) true fuel 65 cs = some y) : ∃ x : R3, ∃ ai ci, cs = [.string x.key, .slice ai x.gs.length ci, .string x.out] ∧ x.le maxLen ∧ GlsAt W ai x.gs := by
  obtain ⟨y0, y1, y2, n, hx, hlen, h0, h1, h2⟩ := Go.Deep.trod_struct3 Try.underlying65 h
  rw [cells65] at hlen
  obtain ⟨c0, c1, c2, rfl⟩ := list3 hlen
  simp only [cells9, cells63] at h0 h1 h2
  obtain ⟨s0, e0, _, hs0⟩ := DataW.trod_string Try.underlying9 h0
  obtain ⟨s2, e2, _, hs2⟩ := DataW.trod_string Try.underlying9 h2
  obtain ⟨ai, ci, gs, e1, hl, hs, hat⟩ := openedG h1
  simp at e0 e1 e2
  exact ⟨⟨s0, gs, s2⟩, ai, ci, by rw [e0, e1, e2], ⟨hs0, hl, hs, hs2⟩, hat⟩
/-- A slice of records that came in. -/
theorem openedR {H : Type} {enc : TypeId × Value → H} {W : World} {fuel : Nat} {cs : List Value} {y : DataW H × List MemPlace}
    (hf : DataW.trod enc Try.prog W 0 (fun _ => true) true fuel 29 cs = some y) :
    ∃ (a : Option Addr) (cap : Nat) (is : List R3), cs = [.slice a is.length cap] ∧ is.length ≤ maxLen ∧ (∀ i, (is.getD i r3z).le maxLen) ∧ RecsAt W a is := by
  rcases Go.Deep.open_slice Try.underlying29 hf with ⟨rfl, _⟩ | ⟨a, len, cap, m, n, D, Pl, rfl, _, hl, hm, hmm, _, hx⟩
  · exact ⟨none, 0, [], rfl, Nat.zero_le _, getD_smallR (fun i hi => absurd hi (Nat.not_lt_zero _)), .inl rfl⟩
  · simp only [if_true] at hmm
    subst hmm
    have hex : ∀ i, i < m → ∃ x : R3, ∃ ai ci, W.cells? 0 (a.add (i * 3)) 3 = some [.string x.key, .slice ai x.gs.length ci, .string x.out] ∧ x.le maxLen ∧ GlsAt W ai x.gs := fun i hi => by
      obtain ⟨cs', h1, h2⟩ := hx i hi
      obtain ⟨x, ai, ci, rfl, hs, hg⟩ := rec_cells h2
      rw [cells65] at h1
      exact ⟨x, ai, ci, h1, hs, hg⟩
    obtain ⟨V, hV⟩ := @Go.Deep.choose_lt R3 ⟨r3z⟩ m (fun i x => ∃ ai ci, W.cells? 0 (a.add (i * 3)) 3 = some [.string x.key, .slice ai x.gs.length ci, .string x.out] ∧ x.le maxLen ∧ GlsAt W ai x.gs) hex
    have hlen : ((List.range len).map V).length = len := by simp
    have hget : ∀ i, i < len → ((List.range len).map V).getD i r3z = V i := fun i hi => by simp [List.getD, hi]
    refine ⟨some a, m, (List.range len).map V, by rw [hlen], by rw [hlen]; omega, getD_smallR (fun i hi => ?_), ?_⟩
    · rw [hlen] at hi
      rw [hget i hi]
      obtain ⟨ai, ci, _, h, _⟩ := hV i (by omega)
      exact h
    · rcases Nat.eq_zero_or_pos len with h0 | h0
      · exact .inl (by rw [h0]; rfl)
      · obtain ⟨b, off, spot⟩ := a
        obtain ⟨_, _, hk, _⟩ := hV 0 (by omega)
        obtain ⟨_, _, hc⟩ := World.cells?_some hk
        have hc0 := hc 0 (by omega)
        have hspot : spot = none := by simpa [Addr.add] using World.cell?_spot hc0
        subst hspot
        refine .inr ⟨b, off, rfl, ?_, fun i hi => ?_⟩
        · rw [add_none, add_none] at hc0
          rcases Nat.lt_or_ge b W.heap.size with h | h
          · exact h
          · simp [World.cell?, Array.getElem?_eq_none h] at hc0
        · rw [hlen] at hi
          rw [hget i hi]
          obtain ⟨ai, ci, hk, _, hg⟩ := hV i (by omega)
          obtain ⟨_, _, hc⟩ := World.cells?_some hk
          have e0 := hc 0 (by omega)
          have e1 := hc 1 (by omega)
          have e2 := hc 2 (by omega)
          rw [add_none, add_none] at e0 e1 e2
          exact ⟨ai, ci, e0, e1, e2, hg⟩
theorem openedS {H : Type} {enc : TypeId × Value → H} {W : World} {fuel : Nat} {a : Option Addr} {len cap : Nat} {x : DataW H × List MemPlace}
    (hf : DataW.trod enc Try.prog W 0 (fun _ => true) true fuel 28 [.slice a len cap] = some x) :
    ∃ ss : List ByteArray, ss.length = len ∧ len ≤ maxLen ∧ (∀ i, (ss.getD i ByteArray.empty).size ≤ maxLen) ∧ StrsAt W a ss := by
  rcases open_strings Try.underlying28 Try.underlying9 cells9 hf with ⟨hcs, _⟩ | ⟨ad, l, c, sa, hcs, _, hl, hm, hz, _, hcell, hws⟩
  · simp at hcs
    obtain ⟨rfl, rfl, rfl⟩ := hcs
    exact ⟨[], rfl, Nat.zero_le _, fun i => by simp, .inl rfl⟩
  · simp at hcs
    obtain ⟨rfl, rfl, rfl⟩ := hcs
    simp only [if_true] at hz
    have hlen : (sa.take len).length = len := by rw [List.length_take]; omega
    have hget : ∀ i, i < len → (sa.take len).getD i ByteArray.empty = sa.getD i ByteArray.empty := fun i hi => by
      simp [List.getD, hi]
    refine ⟨sa.take len, hlen, by omega, getD_small (fun i hi => ?_), ?_⟩
    · rw [hlen] at hi
      rw [hget i hi]
      have hi' : i < sa.length := by omega
      have e : sa.getD i ByteArray.empty = sa[i] := by simp [hi']
      rw [e]
      exact hws _ (List.getElem_mem hi')
    · rcases Nat.eq_zero_or_pos len with h0 | h0
      · exact .inl (by rw [h0]; rfl)
      · obtain ⟨b, off, spot⟩ := ad
        have hc := hcell 0 (by omega)
        have hspot : spot = none := by simpa [Addr.add] using World.cell?_spot hc
        subst hspot
        have hadd : ∀ i, (⟨b, off, none⟩ : Addr).add i = ⟨b, off + i, none⟩ := fun i => by unfold Addr.add; split <;> simp_all
        refine .inr ⟨b, off, rfl, ?_, fun i hi => ?_⟩
        · rw [hadd 0] at hc
          rcases Nat.lt_or_ge b W.heap.size with h | h
          · exact h
          · simp [World.cell?, Array.getElem?_eq_none h] at hc
        · rw [hlen] at hi
          rw [hget i hi, ← hadd i]
          exact hcell i (by omega)

end Go.Proofs.Ytafneponofcdeaa
namespace Go.Proofs.Ytafneponofcdeaa.fnExactValidStore
open Go.ChangeShapes Go.WideShapes Go.ChangeAt Go.RowKit
open Go.ChangeMaps (open_string shut_string)
set_option linter.unusedVariables false

theorem own : ownKnob Try.prog.godebug = none := by kernel_rfl
theorem laidOut : laidOutB Try.prog = true := by kernel_rfl
theorem max_of_shaped {w : World} (h : w.ShapedOpen Try.prog) : MaxAt w := by
  obtain ⟨m, hm⟩ := Go.Proofs.cell_of_shapedOpen_int (g := 0) (zero := #[.int .i64 0]) (t := 3) h (of_decide_eq_true (by kernel_rfl)) (by kernel_rfl) rfl (by kernel_rfl) (by kernel_rfl) Try.underlying3
  refine ⟨?_, m, hm⟩
  rcases Nat.lt_or_ge 0 w.heap.size with h1 | h1
  · exact h1
  · simp [World.cell?, Array.getElem?_eq_none h1] at hm

set_option maxRecDepth 100000 in
theorem lifted (os : Os) (started : os.Started) (H : Type) (enc : TypeId × Value → H) :
    ReturnsInHanded {} Try.checked os 4 .any (Rows.fnExactValidStoreSpec.pre6 enc Try.prog Try.f4 Rows.fnExactValidStoreRow.domain false) (Rows.fnExactValidStoreSpec.post enc Try.prog Try.f4 false true false false) := by
  refine returnsInHanded_of_change_shaped (C := Try.checked) own started (by kernel_rfl) Try.func4
    (ChangeSpec.witness6 (enc := enc) (C := Try.checked) false ⟨#[], #[.agg #[.int .i64 0, .slice none 0 0, .slice none 0 0]], []⟩ 8 (by kernel_rfl) (by kernel_rfl) (by kernel_rfl) (by kernel_rfl)) ?_
  intro W base args ds gs before hval0 hW hcnd _ hSO _
  have hval : ∀ (j : Nat) t v, Try.f4.params[j]? = some t → args[j]? = some v → Value.okWide Try.prog W .any base t v := hval0
  have hW' := hW
  obtain ⟨p, q, hA0, hV, rfl, hfz, hnd⟩ := hW
  have hA : DataW.TrodAll enc Try.prog W 0 (fun _ => true) true Try.f4.params.toList args.toList ds p := hA0
  rw [Try.params4] at hA hval
  obtain ⟨v0, vs0, d0, ds0, p0, q0, hargs, rfl, rfl, h0, r0⟩ := trodAll_cons hA
  obtain ⟨rfl, rfl, rfl⟩ := trodAll_nil r0
  obtain rfl : args = #[v0] := Array.ext' hargs
  obtain ⟨rfl, rfl⟩ := trodVars_none hV
  have k0 := h0
  have lt0 : ∀ x ∈ p0, x.block < W.heap.size := by obtain ⟨m, hm⟩ := k0; exact DataW.trod_lt m _ _ _ hm
  obtain ⟨cs, rfl, hsz⟩ := okWide_struct Try.underlying31 (hval 0 31 v0 rfl rfl)
  obtain ⟨fuel, hf⟩ := h0
  obtain ⟨y0, y1, y2, n, _, hlen, hy0, hy1, hy2⟩ := Go.Deep.trod_struct3 Try.underlying31 hf
  rw [cells31] at hsz
  obtain ⟨c0, c1, c2, rfl⟩ : ∃ c0 c1 c2, cs = #[c0, c1, c2] := by
    obtain ⟨l⟩ := cs
    obtain ⟨a, b, c, rfl⟩ := list3 (by simpa using hsz)
    exact ⟨a, b, c, rfl⟩
  simp only [cells3, cells28, cells29] at hy0 hy1 hy2
  obtain ⟨wd, e0, _, _⟩ := DataW.trod_int Try.underlying3 hy0
  obtain ⟨ra, rc, rs, e2, hrl, hrs, hrat⟩ := openedR hy2
  simp [Value.cells] at e0 e2
  subst e0 e2
  obtain ⟨ta, tl, tc, rfl⟩ : ∃ ta tl tc, c1 = .slice ta tl tc := by
    have hy1' : DataW.trod enc Try.prog W 0 (fun _ => true) true n 28 [c1] = some y1 := by simpa [Value.cells] using hy1
    rcases Go.Deep.open_slice Try.underlying28 hy1' with ⟨h, _⟩ | ⟨a, len, cap, _, _, _, _, h, _⟩
    · simp at h; exact ⟨_, _, _, h⟩
    · simp at h; exact ⟨_, _, _, h⟩
  have hy1' : DataW.trod enc Try.prog W 0 (fun _ => true) true n 28 [.slice ta tl tc] = some y1 := by simpa [Value.cells] using hy1
  obtain ⟨ts, rfl, htl, hts, htat⟩ := openedS hy1'
  clear hA0 hval0
  have hM : maxLen ≤ 9223372036854775807 := by unfold maxLen; omega
  refine (c4 ta ra tc rc ⟨wd, ts, rs⟩ W ⟨⟨Nat.le_trans htl hM, fun i => Nat.le_trans (hts i) hM⟩, Nat.le_trans hrl hM, fun i => ⟨Nat.le_trans (hrs i).1 hM, Nat.le_trans (hrs i).2.1 hM, fun j => ⟨Nat.le_trans ((hrs i).2.2.1 j).1 hM, Nat.le_trans ((hrs i).2.2.1 j).2 hM⟩, Nat.le_trans (hrs i).2.2.2 hM⟩⟩ ⟨htat, hrat⟩ (max_of_shaped hSO)).mono fun e W' ⟨he, bel⟩ => ?_
  subst he
  exact ⟨_, rfl, _, _, _, [], _, [], hW', trodAll_mk1 (shut_bool Try.underlying4 _), (trodAll_cons_mk (Below.trod laidOut (by kernel_rfl) (of_decide_eq_true (by kernel_rfl)) k0 bel lt0) trodAll_mk0), rfl, bel.frame _, fun h => by cases h⟩

theorem over : Rows.fnExactValidStoreRow.holds Try.pinned (OpenSpec.ofChange Rows.fnExactValidStoreSpec) :=
  OpenClaim.holds_of_wide 4 Try.f4 rfl rfl rfl rfl rfl rfl rfl ⟨rfl, rfl, rfl, rfl, rfl⟩ rfl rfl rfl rfl rfl (by kernel_rfl) Try.func4 (by kernel_rfl)
    (of_decide_eq_true (by kernel_rfl)) (by unfold Func.isWrapper; first | (rw [if_pos (by decide +kernel)]; kernel_rfl) | (rw [if_neg (by decide +kernel)]; exact ⟨rfl, rfl⟩))
    (fun os started H enc _ => lifted os started H enc)

theorem proved : Rows.FnExactValidStoreSaid :=
  over
end Go.Proofs.Ytafneponofcdeaa.fnExactValidStore
namespace Go.Proofs.Ytafneponofcdeaa
theorem fnExactValidStore_holds : Rows.FnExactValidStoreSaid := fnExactValidStore.proved
#print axioms fnExactValidStore_holds
end Go.Proofs.Ytafneponofcdeaa
