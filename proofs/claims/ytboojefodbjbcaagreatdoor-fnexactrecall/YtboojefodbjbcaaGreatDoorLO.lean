import Derived.Test.YtboojefodbjbcaaGreatDoorRR
import Derived.WalkKit
import Derived.ProofKit
import Derived.OpenShut
import Derived.ShutString
import Derived.ChangeOld
import Derived.SliceStrings
import Derived.Deep.Strs
import Derived.Deep.Slices
import Derived.OpenVars
import Derived.HandedShaped
import Derived.Shelf.Vars
import Derived.Deep.DeepHandedRow
import Derived.Deep.DeepWitnessRowRef
import Derived.SevenTiedAt
import Derived.ChangeArms
import Derived.LaidMore
import Derived.LaidOnce
import Derived.LaidHandle
namespace Go.Proofs.YtboojefodbjbcaaGreatDoor
open Go.ChangeShapes Go.WideShapes Go.ChangeAt Go.RowKit
set_option linter.unusedVariables false
theorem cells202 : Tryz.prog.cellsOf 202 = 3 := by kernel_rfl
theorem cells119 : Tryz.prog.cellsOf 119 = 3 := by kernel_rfl
theorem cells25 : Tryz.prog.cellsOf 25 = 3 := by kernel_rfl
theorem cells9 : Tryz.prog.cellsOf 9 = 1 := by kernel_rfl
theorem cells4 : Tryz.prog.cellsOf 4 = 1 := by kernel_rfl
theorem cells3 : Tryz.prog.cellsOf 3 = 1 := by kernel_rfl
theorem cells117 : Tryz.prog.cellsOf 117 = 1 := by kernel_rfl
theorem cells22 : Tryz.prog.cellsOf 22 = 1 := by kernel_rfl
theorem cells23 : Tryz.prog.cellsOf 23 = 1 := by kernel_rfl
theorem cells30 : Tryz.prog.cellsOf 30 = 3 := by kernel_rfl
theorem list3 {α : Type} {l : List α} (h : l.length = 3) : ∃ a b c, l = [a, b, c] := by
 rcases l with _ | ⟨a, _ | ⟨b, _ | ⟨c, _ | ⟨d, r⟩⟩⟩⟩ <;> simp at h
 exact ⟨a, b, c, rfl⟩
theorem gl_cells {H : Type} {enc : TypeId × Value → H} {w : World} {base : Nat} {sp : Nat → Bool} {held : Bool} {fuel : Nat} {cs : List Value} {y : DataW H × List MemPlace}
 (h : DataW.trod enc Tryz.prog w base sp held fuel 202 cs = some y) : ∃ x : G3, cs = [.bool x.nm, .string x.tl, .string x.ar] ∧ x.le maxLen := by
 obtain ⟨y0, y1, y2, n, hx, hlen, h0, h1, h2⟩ := Go.Deep.trod_struct3 Tryz.underlying202 h
 rw [cells202] at hlen
 obtain ⟨c0, c1, c2, rfl⟩ := list3 hlen
 simp only [cells9, cells4] at h0 h1 h2
 obtain ⟨s0, e0, _⟩ := DataW.trod_bool Tryz.underlying4 h0
 obtain ⟨s1, e1, _, hs1⟩ := DataW.trod_string Tryz.underlying9 h1
 obtain ⟨s2, e2, _, hs2⟩ := DataW.trod_string Tryz.underlying9 h2
 simp at e0 e1 e2
 exact ⟨⟨s0, s1, s2⟩, by rw [e0, e1, e2], hs1, hs2⟩
theorem add_none (b off i : Nat) : (⟨b, off, none⟩ : Addr).add i = ⟨b, off + i, none⟩ := by unfold Addr.add; split <;> simp_all
theorem openedG {H : Type} {enc : TypeId × Value → H} {W : World} {fuel : Nat} {cs : List Value} {y : DataW H × List MemPlace}
 (hf : DataW.trod enc Tryz.prog W 0 (fun _ => true) true fuel 117 cs = some y) :
 ∃ (a : Option Addr) (cap : Nat) (is : List G3), cs = [.slice a is.length cap] ∧ is.length ≤ maxLen ∧ (∀ i, (is.getD i g3z).le maxLen) ∧ GlsAt W a is := by
 rcases Go.Deep.open_slice Tryz.underlying117 hf with ⟨rfl, _⟩ | ⟨a, len, cap, m, n, D, Pl, rfl, _, hl, hm, hmm, _, hx⟩
 · exact ⟨none, 0, [], rfl, Nat.zero_le _, fun i => ⟨Nat.zero_le _, Nat.zero_le _⟩, .inl rfl⟩
 · simp only [if_true] at hmm
   subst hmm
   have hex : ∀ i, i < m → ∃ x : G3, W.cells? 0 (a.add (i * 3)) 3 = some [.bool x.nm, .string x.tl, .string x.ar] ∧ x.le maxLen := fun i hi => by
    obtain ⟨cs', h1, h2⟩ := hx i hi
    obtain ⟨x, rfl, hs⟩ := gl_cells h2
    rw [cells202] at h1
    exact ⟨x, h1, hs⟩
   obtain ⟨V, hV⟩ := @Go.Deep.choose_lt G3 ⟨g3z⟩ m (fun i x => W.cells? 0 (a.add (i * 3)) 3 = some [.bool x.nm, .string x.tl, .string x.ar] ∧ x.le maxLen) hex
   have hlen : ((List.range len).map V).length = len := by simp
   have hget : ∀ i, i < len → ((List.range len).map V).getD i g3z = V i := fun i hi => by simp [List.getD, hi]
   refine ⟨some a, m, (List.range len).map V, by rw [hlen], by rw [hlen]; omega, getD_smallG (fun i hi => ?_), ?_⟩
   · rw [hlen] at hi
     rw [hget i hi]
     exact (hV i (by omega)).2
   · rcases Nat.eq_zero_or_pos len with h0 | h0
     · exact .inl (by rw [h0]; rfl)
     · obtain ⟨b, off, spot⟩ := a
       obtain ⟨_, _, hc⟩ := World.cells?_some (hV 0 (by omega)).1
       have hc0 := hc 0 (by omega)
       have hspot : spot = none := by simpa [Addr.add] using World.cell?_spot hc0
       subst hspot
       refine .inr ⟨b, off, rfl, ?_, fun i hi => ?_⟩
       · rw [add_none, add_none] at hc0
         rcases Nat.lt_or_ge b W.heap.size with h | h
         · exact h
         · simp [World.cell?, Array.getElem?_eq_none h] at hc0
       · rw [hlen] at hi
         rw [hget i hi]
         obtain ⟨_, _, hc⟩ := World.cells?_some (hV i (by omega)).1
         have e0 := hc 0 (by omega)
         have e1 := hc 1 (by omega)
         have e2 := hc 2 (by omega)
         rw [add_none, add_none] at e0 e1 e2
         exact ⟨e0, e1, e2⟩
theorem rec_cells {H : Type} {enc : TypeId × Value → H} {W : World} {fuel : Nat} {cs : List Value} {y : DataW H × List MemPlace}
 (h : DataW.trod enc Tryz.prog W 0 (fun _ => true) true fuel 119 cs = some y) : ∃ x : R3, ∃ ai ci, cs = [.string x.key, .slice ai x.gs.length ci, .string x.out] ∧ x.le maxLen ∧ GlsAt W ai x.gs := by
 obtain ⟨y0, y1, y2, n, hx, hlen, h0, h1, h2⟩ := Go.Deep.trod_struct3 Tryz.underlying119 h
 rw [cells119] at hlen
 obtain ⟨c0, c1, c2, rfl⟩ := list3 hlen
 simp only [cells9, cells117] at h0 h1 h2
 obtain ⟨s0, e0, _, hs0⟩ := DataW.trod_string Tryz.underlying9 h0
 obtain ⟨s2, e2, _, hs2⟩ := DataW.trod_string Tryz.underlying9 h2
 obtain ⟨ai, ci, gs, e1, hl, hs, hat⟩ := openedG h1
 simp at e0 e1 e2
 exact ⟨⟨s0, gs, s2⟩, ai, ci, by rw [e0, e1, e2], ⟨hs0, hl, hs, hs2⟩, hat⟩
theorem openedR {H : Type} {enc : TypeId × Value → H} {W : World} {fuel : Nat} {cs : List Value} {y : DataW H × List MemPlace}
 (hf : DataW.trod enc Tryz.prog W 0 (fun _ => true) true fuel 23 cs = some y) :
 ∃ (a : Option Addr) (cap : Nat) (is : List R3), cs = [.slice a is.length cap] ∧ is.length ≤ maxLen ∧ (∀ i, (is.getD i r3z).le maxLen) ∧ RecsAt W a is := by
 rcases Go.Deep.open_slice Tryz.underlying23 hf with ⟨rfl, _⟩ | ⟨a, len, cap, m, n, D, Pl, rfl, _, hl, hm, hmm, _, hx⟩
 · exact ⟨none, 0, [], rfl, Nat.zero_le _, getD_smallR (fun i hi => absurd hi (Nat.not_lt_zero _)), .inl rfl⟩
 · simp only [if_true] at hmm
   subst hmm
   have hex : ∀ i, i < m → ∃ x : R3, ∃ ai ci, W.cells? 0 (a.add (i * 3)) 3 = some [.string x.key, .slice ai x.gs.length ci, .string x.out] ∧ x.le maxLen ∧ GlsAt W ai x.gs := fun i hi => by
    obtain ⟨cs', h1, h2⟩ := hx i hi
    obtain ⟨x, ai, ci, rfl, hs, hg⟩ := rec_cells h2
    rw [cells119] at h1
    exact ⟨x, ai, ci, h1, hs, hg⟩
   obtain ⟨V, hV⟩ := @Go.Deep.choose_lt R3 ⟨r3z⟩ m (fun i x => ∃ ai ci, W.cells? 0 (a.add (i * 3)) 3 = some [.string x.key, .slice ai x.gs.length ci, .string x.out] ∧ x.le maxLen ∧ GlsAt W ai x.gs) hex
   have hlen : ((List.range len).map V).length = len := by simp
   have hget : ∀ i, i < len → ((List.range len).map V).getD i r3z = V i := fun i hi => by simp [List.getD, hi]
   refine ⟨some a, m, (List.range len).map V, by rw [hlen], by rw [hlen]; omega, getD_smallR (fun i hi => ?_), ?_⟩
   · rw [hlen] at hi
     rw [hget i hi]
     obtain ⟨ai, ci, _, h, _⟩ := hV i (by omega)
     exact h
   · rcases Nat.eq_zero_or_pos len with h0 | h0
     · exact .inl (by rw [h0]; rfl)
     · obtain ⟨b, off, spot⟩ := a
       obtain ⟨_, _, hk, _⟩ := hV 0 (by omega)
       obtain ⟨_, _, hc⟩ := World.cells?_some hk
       have hc0 := hc 0 (by omega)
       have hspot : spot = none := by simpa [Addr.add] using World.cell?_spot hc0
       subst hspot
       refine .inr ⟨b, off, rfl, ?_, fun i hi => ?_⟩
       · rw [add_none, add_none] at hc0
         rcases Nat.lt_or_ge b W.heap.size with h | h
         · exact h
         · simp [World.cell?, Array.getElem?_eq_none h] at hc0
       · rw [hlen] at hi
         rw [hget i hi]
         obtain ⟨ai, ci, hk, _, hg⟩ := hV i (by omega)
         obtain ⟨_, _, hc⟩ := World.cells?_some hk
         have e0 := hc 0 (by omega)
         have e1 := hc 1 (by omega)
         have e2 := hc 2 (by omega)
         rw [add_none, add_none] at e0 e1 e2
         exact ⟨ai, ci, e0, e1, e2, hg⟩
theorem openedS {H : Type} {enc : TypeId × Value → H} {W : World} {fuel : Nat} {a : Option Addr} {len cap : Nat} {x : DataW H × List MemPlace}
 (hf : DataW.trod enc Tryz.prog W 0 (fun _ => true) true fuel 22 [.slice a len cap] = some x) :
 ∃ ss : List ByteArray, ss.length = len ∧ len ≤ maxLen ∧ (∀ i, (ss.getD i ByteArray.empty).size ≤ maxLen) ∧ StrsAt W a ss := by
 rcases open_strings Tryz.underlying22 Tryz.underlying9 cells9 hf with ⟨hcs, _⟩ | ⟨ad, l, c, sa, hcs, _, hl, hm, hz, _, hcell, hws⟩
 · simp at hcs
   obtain ⟨rfl, rfl, rfl⟩ := hcs
   exact ⟨[], rfl, Nat.zero_le _, fun i => by simp, .inl rfl⟩
 · simp at hcs
   obtain ⟨rfl, rfl, rfl⟩ := hcs
   simp only [if_true] at hz
   have hlen : (sa.take len).length = len := by rw [List.length_take]; omega
   have hget : ∀ i, i < len → (sa.take len).getD i ByteArray.empty = sa.getD i ByteArray.empty := fun i hi => by
    simp [List.getD, hi]
   refine ⟨sa.take len, hlen, by omega, getD_small (fun i hi => ?_), ?_⟩
   · rw [hlen] at hi
     rw [hget i hi]
     have hi' : i < sa.length := by omega
     have e : sa.getD i ByteArray.empty = sa[i] := by simp [hi']
     rw [e]
     exact hws _ (List.getElem_mem hi')
   · rcases Nat.eq_zero_or_pos len with h0 | h0
     · exact .inl (by rw [h0]; rfl)
     · obtain ⟨b, off, spot⟩ := ad
       have hc := hcell 0 (by omega)
       have hspot : spot = none := by simpa [Addr.add] using World.cell?_spot hc
       subst hspot
       have hadd : ∀ i, (⟨b, off, none⟩ : Addr).add i = ⟨b, off + i, none⟩ := fun i => by unfold Addr.add; split <;> simp_all
       refine .inr ⟨b, off, rfl, ?_, fun i hi => ?_⟩
       · rw [hadd 0] at hc
         rcases Nat.lt_or_ge b W.heap.size with h | h
         · exact h
         · simp [World.cell?, Array.getElem?_eq_none h] at hc
       · rw [hlen] at hi
         rw [hget i hi, ← hadd i]
         exact hcell i (by omega)
theorem list3' {α : Type} {l : List α} (h : l.length = 3) : ∃ a0 a1 a2, l = [a0, a1, a2] := by
 match l, h with
 | [a0, a1, a2], _ => exact ⟨a0, a1, a2, rfl⟩
theorem make_cells {H : Type} {enc : TypeId × Value → H} {w : World} {base : Nat} {sp : Nat → Bool} {held : Bool} {fuel : Nat} {cs : List Value} {y : DataW H × List MemPlace}
 (h : DataW.trod enc Tryz.prog w base sp held fuel 30 cs = some y) : ∃ x : M3, cs = [.string x.nm, .string x.tl, .string x.ar] ∧ x.le maxLen := by
 obtain ⟨y0, y1, y2, n, hx, hlen, h0, h1, h2⟩ := Go.Deep.trod_struct3 Tryz.underlying30 h
 rw [cells30] at hlen
 obtain ⟨c0, c1, c2, rfl⟩ := list3' hlen
 simp only [cells9] at h0 h1 h2
 obtain ⟨s0, e0, _, hs0⟩ := DataW.trod_string Tryz.underlying9 h0
 obtain ⟨s1, e1, _, hs1⟩ := DataW.trod_string Tryz.underlying9 h1
 obtain ⟨s2, e2, _, hs2⟩ := DataW.trod_string Tryz.underlying9 h2
 simp at e0 e1 e2
 exact ⟨⟨s0, s1, s2⟩, by rw [e0, e1, e2], hs0, hs1, hs2⟩
theorem own : ownKnob Tryz.prog.godebug = none := by kernel_rfl
theorem laidOut : laidOutB Tryz.prog = true := by kernel_rfl
def cell1 : DataW Unit → Value
 | .lit (.int k n) => .int k n
 | .lit (.bool b) => .bool b
 | .lit (.string l) => .string ⟨l.toArray⟩
 | _ => .bool false
def cells1 : DataW Unit → List Value
 | .agg es => es.map cell1
 | d => [cell1 d]
def cells2 : DataW Unit → Array Value
 | .agg ds => (ds.flatMap cells1).toArray
 | _ => #[]
def withTab (g : Nat) (t : Array Value) (w : World) : World := { w with heap := w.heap.modify g fun
 | .cells _ ty frozen => .cells t ty frozen
 | o => o }
end Go.Proofs.YtboojefodbjbcaaGreatDoor
namespace Go.Proofs.YtboojefodbjbcaaGreatDoor.G.T
open Go.ChangeShapes Go.WideShapes Go.ChangeAt Go.RowKit
set_option linter.unusedVariables false
theorem cells9 : Tryz.prog.cellsOf 9 = 1 := by kernel_rfl
theorem add_none (b off i : Nat) : (⟨b, off, none⟩ : Addr).add i = ⟨b, off + i, none⟩ := by unfold Addr.add; split <;> simp_all
theorem cells122 : Tryz.prog.cellsOf 122 = 2 := by kernel_rfl
theorem list2 {α : Type} {l : List α} (h : l.length = 2) : ∃ a b, l = [a, b] := by
 rcases l with _ | ⟨a, _ | ⟨b, _ | ⟨c, l⟩⟩⟩
 · cases h
 · cases h
 · exact ⟨a, b, rfl⟩
 · simp at h
theorem file_cells {H : Type} {enc : TypeId × Value → H} {w : World} {base : Nat} {sp : Nat → Bool} {held : Bool} {fuel : Nat} {cs : List Value} {y : DataW H × List MemPlace}
 (h : DataW.trod enc Tryz.prog w base sp held fuel 122 cs = some y) : ∃ x : F2, cs = [.string x.nm, .string x.tx] ∧ x.le maxLen := by
 obtain ⟨y0, y1, n, hx, hlen, h0, h1⟩ := trod_struct2 Tryz.underlying122 h
 rw [cells122] at hlen
 obtain ⟨c0, c1, rfl⟩ := list2 hlen
 simp only [cells9] at h0 h1
 obtain ⟨n0, e0, _, hn⟩ := DataW.trod_string Tryz.underlying9 h0
 obtain ⟨s, e1, _, hs⟩ := DataW.trod_string Tryz.underlying9 h1
 simp at e0 e1
 exact ⟨⟨n0, s⟩, by rw [e0, e1], ⟨hn, hs⟩⟩
theorem opened {H : Type} {enc : TypeId × Value → H} {W : World} {fuel : Nat} {cs : List Value} {y : DataW H × List MemPlace}
 (hf : DataW.trod enc Tryz.prog W 0 (fun _ => true) true fuel 26 cs = some y) :
 ∃ (a : Option Addr) (cap : Nat) (is : List F2), cs = [.slice a is.length cap] ∧ is.length ≤ maxLen ∧ (∀ i, (is.getD i f2z).le maxLen) ∧ FilesAt W a is := by
 rcases Go.Deep.open_slice Tryz.underlying26 hf with ⟨rfl, _⟩ | ⟨a, len, cap, m, n, D, Pl, rfl, _, hl, hm, hmm, _, hx⟩
 · exact ⟨none, 0, [], rfl, Nat.zero_le _, fun i => ⟨by simp [f2z, ByteArray.size], by simp [f2z, ByteArray.size]⟩, .inl rfl⟩
 · simp only [if_true] at hmm
   subst hmm
   have hex : ∀ i, i < m → ∃ x : F2, W.cells? 0 (a.add (i * 2)) 2 = some [.string x.nm, .string x.tx] ∧ x.le maxLen := fun i hi => by
    obtain ⟨cs', h1, h2⟩ := hx i hi
    obtain ⟨x, rfl, hs⟩ := file_cells h2
    rw [cells122] at h1
    exact ⟨x, h1, hs⟩
   obtain ⟨V, hV⟩ := @Go.Deep.choose_lt F2 ⟨f2z⟩ m (fun i x => W.cells? 0 (a.add (i * 2)) 2 = some [.string x.nm, .string x.tx] ∧ x.le maxLen) hex
   have hlen : ((List.range len).map V).length = len := by simp
   have hget : ∀ i, i < len → ((List.range len).map V).getD i f2z = V i := fun i hi => by simp [List.getD, hi]
   refine ⟨some a, m, (List.range len).map V, by rw [hlen], by rw [hlen]; omega, getD_small2 (fun i hi => ?_), ?_⟩
   · rw [hlen] at hi
     rw [hget i hi]
     exact (hV i (by omega)).2
   · rcases Nat.eq_zero_or_pos len with h0 | h0
     · exact .inl (by rw [h0]; rfl)
     · obtain ⟨b, off, spot⟩ := a
       obtain ⟨_, _, hc⟩ := World.cells?_some (hV 0 (by omega)).1
       have hc0 := hc 0 (by omega)
       have hspot : spot = none := by simpa [Addr.add] using World.cell?_spot hc0
       subst hspot
       refine .inr ⟨b, off, rfl, ?_, fun i hi => ?_⟩
       · rw [add_none, add_none] at hc0
         rcases Nat.lt_or_ge b W.heap.size with h | h
         · exact h
         · simp [World.cell?, Array.getElem?_eq_none h] at hc0
       · rw [hlen] at hi
         rw [hget i hi]
         obtain ⟨_, _, hc⟩ := World.cells?_some (hV i (by omega)).1
         have e0 := hc 0 (by omega)
         have e1 := hc 1 (by omega)
         rw [add_none, add_none] at e0 e1
         exact ⟨e0, e1⟩
end Go.Proofs.YtboojefodbjbcaaGreatDoor.G.T
namespace Go.Proofs.YtboojefodbjbcaaGreatDoor.G
open Go.ChangeShapes Go.WideShapes Go.ChangeAt Go.RowKit
set_option linter.unusedVariables false
open T (F2 f2z treeOk Asc FilesAt)
theorem cells3 : Tryz.prog.cellsOf 3 = 1 := by kernel_rfl
theorem cells4 : Tryz.prog.cellsOf 4 = 1 := by kernel_rfl
theorem cells9' : Tryz.prog.cellsOf 9 = 1 := by kernel_rfl
theorem cells30 : Tryz.prog.cellsOf 30 = 3 := by kernel_rfl
theorem cells69 : Tryz.prog.cellsOf 69 = 1 := by kernel_rfl
theorem cells70 : Tryz.prog.cellsOf 70 = 2 := by kernel_rfl
theorem cells72 : Tryz.prog.cellsOf 72 = 8 := by kernel_rfl
theorem cells179 : Tryz.prog.cellsOf 179 = 4 := by kernel_rfl
theorem list2' {α : Type} {l : List α} (h : l.length = 2) : ∃ a b, l = [a, b] := by
 match l, h with
 | [a, b], _ => exact ⟨a, b, rfl⟩
theorem list3' {α : Type} {l : List α} (h : l.length = 3) : ∃ a b c, l = [a, b, c] := by
 match l, h with
 | [a, b, c], _ => exact ⟨a, b, c, rfl⟩
theorem list4' {α : Type} {l : List α} (h : l.length = 4) : ∃ a b c d, l = [a, b, c, d] := by
 match l, h with
 | [a, b, c, d], _ => exact ⟨a, b, c, d, rfl⟩
theorem list8' {α : Type} {l : List α} (h : l.length = 8) : ∃ a b c d e f g i, l = [a, b, c, d, e, f, g, i] := by
 match l, h with
 | [a, b, c, d, e, f, g, i], _ => exact ⟨a, b, c, d, e, f, g, i, rfl⟩
theorem struct5 {H : Type} {enc : TypeId × Value → H} {P : Program} {w : World} {base : Nat} {spare : Nat → Bool} {held : Bool} {t : TypeId} {f0 f1 f2 f3 f4 : Field} {fuel : Nat} {cs : List Value} {x : DataW H × List MemPlace} (ht : P.underlying t = some (.struct #[f0, f1, f2, f3, f4])) (h : DataW.trod enc P w base spare held fuel t cs = some x) :
 ∃ y0 y1 y2 y3 y4 n, cs.length = P.cellsOf t ∧ DataW.trod enc P w base spare held n f0.type ((cs.drop f0.offset).take (P.cellsOf f0.type)) = some y0 ∧
  DataW.trod enc P w base spare held n f1.type ((cs.drop f1.offset).take (P.cellsOf f1.type)) = some y1 ∧ DataW.trod enc P w base spare held n f2.type ((cs.drop f2.offset).take (P.cellsOf f2.type)) = some y2 ∧
  DataW.trod enc P w base spare held n f3.type ((cs.drop f3.offset).take (P.cellsOf f3.type)) = some y3 ∧ DataW.trod enc P w base spare held n f4.type ((cs.drop f4.offset).take (P.cellsOf f4.type)) = some y4 := by
 obtain ⟨xs, n, _, rfl, hl, hlen, hf⟩ := DataW.trod_struct ht h
 match xs, hlen with
 | [y0, y1, y2, y3, y4], _ => exact ⟨y0, y1, y2, y3, y4, n, hl, by simpa using hf 0 f0 rfl, by simpa using hf 1 f1 rfl, by simpa using hf 2 f2 rfl, by simpa using hf 3 f3 rfl, by simpa using hf 4 f4 rfl⟩
theorem res_cells {H : Type} {enc : TypeId × Value → H} {w : World} {base : Nat} {sp : Nat → Bool} {held : Bool} {fuel : Nat} {cs : List Value} {y : DataW H × List MemPlace}
 (h : DataW.trod enc Tryz.prog w base sp held fuel 70 cs = some y) : ∃ (c : Int) (t : ByteArray), cs = [.int .i64 c, .string t] ∧ t.size ≤ maxLen := by
 obtain ⟨y0, y1, n, hx, hlen, h0, h1⟩ := trod_struct2 Tryz.underlying70 h
 rw [cells70] at hlen
 obtain ⟨c0, c1, rfl⟩ := list2' hlen
 simp only [cells9', cells3] at h0 h1
 obtain ⟨n0, e0, _, _⟩ := DataW.trod_int Tryz.underlying3 h0
 obtain ⟨s, e1, _, hs⟩ := DataW.trod_string Tryz.underlying9 h1
 simp at e0 e1
 exact ⟨n0, s, by rw [e0, e1], hs⟩
theorem make_cells {H : Type} {enc : TypeId × Value → H} {w : World} {base : Nat} {sp : Nat → Bool} {held : Bool} {fuel : Nat} {cs : List Value} {y : DataW H × List MemPlace}
 (h : DataW.trod enc Tryz.prog w base sp held fuel 30 cs = some y) : ∃ x : M3, cs = [.string x.nm, .string x.tl, .string x.ar] ∧ x.le maxLen := by
 obtain ⟨y0, y1, y2, n, hx, hlen, h0, h1, h2⟩ := Go.Deep.trod_struct3 Tryz.underlying30 h
 rw [cells30] at hlen
 obtain ⟨c0, c1, c2, rfl⟩ := list3' hlen
 simp only [cells9'] at h0 h1 h2
 obtain ⟨s0, e0, _, hs0⟩ := DataW.trod_string Tryz.underlying9 h0
 obtain ⟨s1, e1, _, hs1⟩ := DataW.trod_string Tryz.underlying9 h1
 obtain ⟨s2, e2, _, hs2⟩ := DataW.trod_string Tryz.underlying9 h2
 simp at e0 e1 e2
 exact ⟨⟨s0, s1, s2⟩, by rw [e0, e1, e2], hs0, hs1, hs2⟩
theorem look_cells {H : Type} {enc : TypeId × Value → H} {w : World} {base : Nat} {sp : Nat → Bool} {held : Bool} {fuel : Nat} {cs : List Value} {y : DataW H × List MemPlace}
 (h : DataW.trod enc Tryz.prog w base sp held fuel 179 cs = some y) : ∃ x : L4, cs = [.bool x.has, .string x.nm, .int .i64 x.cd, .string x.tx] ∧ x.le maxLen := by
 obtain ⟨y0, y1, y2, n, hx, hlen, h0, h1, h2⟩ := Go.Deep.trod_struct3 Tryz.underlying179 h
 rw [cells179] at hlen
 obtain ⟨c0, c1, c2, c3, rfl⟩ := list4' hlen
 simp only [cells9', cells4, cells70] at h0 h1 h2
 obtain ⟨s0, e0, _⟩ := DataW.trod_bool Tryz.underlying4 h0
 obtain ⟨s1, e1, _, hs1⟩ := DataW.trod_string Tryz.underlying9 h1
 obtain ⟨c, t, e2, ht⟩ := res_cells h2
 simp at e0 e1 e2
 exact ⟨⟨s0, s1, c, t⟩, by rw [e0, e1, e2.1, e2.2], hs1, ht⟩
theorem add_none' (b off i : Nat) : (⟨b, off, none⟩ : Addr).add i = ⟨b, off + i, none⟩ := by unfold Addr.add; split <;> simp_all
theorem openedL {H : Type} {enc : TypeId × Value → H} {W : World} {fuel : Nat} {cs : List Value} {y : DataW H × List MemPlace}
 (hf : DataW.trod enc Tryz.prog W 0 (fun _ => true) true fuel 69 cs = some y) :
 ∃ (a : Option Addr) (cap : Nat) (is : List L4), cs = [.slice a is.length cap] ∧ is.length ≤ maxLen ∧ (∀ i, (is.getD i l4z).le maxLen) ∧ LksAt W a is := by
 rcases Go.Deep.open_slice Tryz.underlying69 hf with ⟨rfl, _⟩ | ⟨a, len, cap, m, n, D, Pl, rfl, _, hl, hm, hmm, _, hx⟩
 · exact ⟨none, 0, [], rfl, Nat.zero_le _, getD_smallL (fun i hi => absurd hi (Nat.not_lt_zero _)), .inl rfl⟩
 · simp only [if_true] at hmm
   subst hmm
   have hex : ∀ i, i < m → ∃ x : L4, W.cells? 0 (a.add (i * 4)) 4 = some [.bool x.has, .string x.nm, .int .i64 x.cd, .string x.tx] ∧ x.le maxLen := fun i hi => by
    obtain ⟨cs', h1, h2⟩ := hx i hi
    obtain ⟨x, rfl, hs⟩ := look_cells h2
    rw [cells179] at h1
    exact ⟨x, h1, hs⟩
   obtain ⟨V, hV⟩ := @Go.Deep.choose_lt L4 ⟨l4z⟩ m (fun i x => W.cells? 0 (a.add (i * 4)) 4 = some [.bool x.has, .string x.nm, .int .i64 x.cd, .string x.tx] ∧ x.le maxLen) hex
   have hlen : ((List.range len).map V).length = len := by simp
   have hget : ∀ i, i < len → ((List.range len).map V).getD i l4z = V i := fun i hi => by simp [List.getD, hi]
   refine ⟨some a, m, (List.range len).map V, by rw [hlen], by rw [hlen]; omega, getD_smallL (fun i hi => ?_), ?_⟩
   · rw [hlen] at hi
     rw [hget i hi]
     exact (hV i (by omega)).2
   · rcases Nat.eq_zero_or_pos len with h0 | h0
     · exact .inl (by rw [h0]; rfl)
     · obtain ⟨b, off, spot⟩ := a
       obtain ⟨_, _, hc⟩ := World.cells?_some (hV 0 (by omega)).1
       have hc0 := hc 0 (by omega)
       have hspot : spot = none := by simpa [Addr.add] using World.cell?_spot hc0
       subst hspot
       refine .inr ⟨b, off, rfl, ?_, fun i hi => ?_⟩
       · rw [add_none', add_none'] at hc0
         rcases Nat.lt_or_ge b W.heap.size with h | h
         · exact h
         · simp [World.cell?, Array.getElem?_eq_none h] at hc0
       · rw [hlen] at hi
         rw [hget i hi]
         obtain ⟨_, _, hc⟩ := World.cells?_some (hV i (by omega)).1
         have e0 := hc 0 (by omega)
         have e1 := hc 1 (by omega)
         have e2 := hc 2 (by omega)
         have e3 := hc 3 (by omega)
         rw [add_none', add_none'] at e0 e1 e2 e3
         exact ⟨e0, e1, e2, e3⟩
def dCells (x : D8) (ai : Option Addr) (ci : Nat) : List Value := [.string x.nm, .bool x.made, .string x.km.nm, .string x.km.tl, .string x.km.ar, .slice ai x.ls.length ci, .int .i64 x.cd, .string x.tx]
theorem deed_cells {H : Type} {enc : TypeId × Value → H} {W : World} {fuel : Nat} {cs : List Value} {y : DataW H × List MemPlace}
 (h : DataW.trod enc Tryz.prog W 0 (fun _ => true) true fuel 72 cs = some y) : ∃ x : D8, ∃ ai ci, cs = dCells x ai ci ∧ x.le maxLen ∧ LksAt W ai x.ls := by
 obtain ⟨y0, y1, y2, y3, y4, n, hlen, h0, h1, h2, h3, h4⟩ := struct5 Tryz.underlying72 h
 rw [cells72] at hlen
 obtain ⟨c0, c1, c2, c3, c4, c5, c6, c7, rfl⟩ := list8' hlen
 simp only [cells9', cells4, cells30, cells69, cells70] at h0 h1 h2 h3 h4
 obtain ⟨s0, e0, _, hs0⟩ := DataW.trod_string Tryz.underlying9 h0
 obtain ⟨s1, e1, _⟩ := DataW.trod_bool Tryz.underlying4 h1
 obtain ⟨m, e2, hm⟩ := make_cells h2
 obtain ⟨ai, ci, gs, e3, hl, hs, hat⟩ := openedL h3
 obtain ⟨c, t, e4, ht⟩ := res_cells h4
 simp at e0 e1 e2 e3 e4
 obtain ⟨e20, e21, e22⟩ := e2
 obtain ⟨e40, e41⟩ := e4
 subst e0 e1 e20 e21 e22 e3 e40 e41
 exact ⟨⟨s0, s1, m, gs, c, t⟩, ai, ci, rfl, ⟨hs0, hm, ⟨hl, hs⟩, ht⟩, hat⟩
theorem openedD {H : Type} {enc : TypeId × Value → H} {W : World} {fuel : Nat} {cs : List Value} {y : DataW H × List MemPlace}
 (hf : DataW.trod enc Tryz.prog W 0 (fun _ => true) true fuel 31 cs = some y) :
 ∃ (a : Option Addr) (cap : Nat) (is : List D8), cs = [.slice a is.length cap] ∧ is.length ≤ maxLen ∧ (∀ i, (is.getD i d8z).le maxLen) ∧ DeedsAt W a is := by
 rcases Go.Deep.open_slice Tryz.underlying31 hf with ⟨rfl, _⟩ | ⟨a, len, cap, m, n, D, Pl, rfl, _, hl, hm, hmm, _, hx⟩
 · exact ⟨none, 0, [], rfl, Nat.zero_le _, getD_smallD (fun i hi => absurd hi (Nat.not_lt_zero _)), .inl rfl⟩
 · simp only [if_true] at hmm
   subst hmm
   have hex : ∀ i, i < m → ∃ x : D8, ∃ ai ci, W.cells? 0 (a.add (i * 8)) 8 = some (dCells x ai ci) ∧ x.le maxLen ∧ LksAt W ai x.ls := fun i hi => by
    obtain ⟨cs', h1, h2⟩ := hx i hi
    obtain ⟨x, ai, ci, rfl, hs, hg⟩ := deed_cells h2
    rw [cells72] at h1
    exact ⟨x, ai, ci, h1, hs, hg⟩
   obtain ⟨V, hV⟩ := @Go.Deep.choose_lt D8 ⟨d8z⟩ m (fun i x => ∃ ai ci, W.cells? 0 (a.add (i * 8)) 8 = some (dCells x ai ci) ∧ x.le maxLen ∧ LksAt W ai x.ls) hex
   have hlen : ((List.range len).map V).length = len := by simp
   have hget : ∀ i, i < len → ((List.range len).map V).getD i d8z = V i := fun i hi => by simp [List.getD, hi]
   refine ⟨some a, m, (List.range len).map V, by rw [hlen], by rw [hlen]; omega, getD_smallD (fun i hi => ?_), ?_⟩
   · rw [hlen] at hi
     rw [hget i hi]
     obtain ⟨ai, ci, _, h, _⟩ := hV i (by omega)
     exact h
   · rcases Nat.eq_zero_or_pos len with h0 | h0
     · exact .inl (by rw [h0]; rfl)
     · obtain ⟨b, off, spot⟩ := a
       obtain ⟨_, _, hk, _⟩ := hV 0 (by omega)
       obtain ⟨_, _, hc⟩ := World.cells?_some hk
       have hc0 := hc 0 (by omega)
       have hspot : spot = none := by simpa [Addr.add] using World.cell?_spot hc0
       subst hspot
       refine .inr ⟨b, off, rfl, ?_, fun i hi => ?_⟩
       · rw [add_none', add_none'] at hc0
         rcases Nat.lt_or_ge b W.heap.size with h | h
         · exact h
         · simp [World.cell?, Array.getElem?_eq_none h, dCells] at hc0
       · rw [hlen] at hi
         rw [hget i hi]
         obtain ⟨ai, ci, hk, _, hg⟩ := hV i (by omega)
         obtain ⟨_, _, hc⟩ := World.cells?_some hk
         have e0 := hc 0 (by omega)
         have e1 := hc 1 (by omega)
         have e2 := hc 2 (by omega)
         have e3 := hc 3 (by omega)
         have e4 := hc 4 (by omega)
         have e5 := hc 5 (by omega)
         have e6 := hc 6 (by omega)
         have e7 := hc 7 (by omega)
         rw [add_none', add_none'] at e0 e1 e2 e3 e4 e5 e6 e7
         exact ⟨ai, ci, ⟨e0, e1, e2, e3, e4, e5, e6, e7⟩, hg⟩
theorem cells28 : Tryz.prog.cellsOf 28 = 1 := by kernel_rfl
theorem cells26 : Tryz.prog.cellsOf 26 = 1 := by kernel_rfl
end Go.Proofs.YtboojefodbjbcaaGreatDoor.G
