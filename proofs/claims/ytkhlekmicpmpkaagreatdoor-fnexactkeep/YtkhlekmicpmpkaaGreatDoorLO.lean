import Derived.Test.YtkhlekmicpmpkaaGreatDoorMV
import Derived.WalkKit
import Derived.ProofKit
import Derived.OpenShut
import Derived.ShutString
import Derived.ChangeOld
import Derived.SliceStrings
import Derived.Deep.Strs
import Derived.Deep.Slices
import Derived.OpenVars
import Derived.HandedShaped
import Derived.Shelf.Vars
import Derived.Deep.DeepHandedRow
import Derived.Deep.DeepWitnessRowRef
import Derived.SevenTiedAt
import Derived.ChangeArms
import Derived.LaidMore
import Derived.LaidOnce
import Derived.LaidHandle
namespace Go.Proofs.YtkhlekmicpmpkaaGreatDoor
open Go.ChangeShapes Go.WideShapes Go.ChangeAt Go.RowKit
set_option linter.unusedVariables false
theorem cells156 : Tryz.prog.cellsOf 156 = 3 := by kernel_rfl
theorem cells85 : Tryz.prog.cellsOf 85 = 3 := by kernel_rfl
theorem cells25 : Tryz.prog.cellsOf 25 = 3 := by kernel_rfl
theorem cells9 : Tryz.prog.cellsOf 9 = 1 := by kernel_rfl
theorem cells4 : Tryz.prog.cellsOf 4 = 1 := by kernel_rfl
theorem cells3 : Tryz.prog.cellsOf 3 = 1 := by kernel_rfl
theorem cells83 : Tryz.prog.cellsOf 83 = 1 := by kernel_rfl
theorem cells22 : Tryz.prog.cellsOf 22 = 1 := by kernel_rfl
theorem cells23 : Tryz.prog.cellsOf 23 = 1 := by kernel_rfl
theorem cells27 : Tryz.prog.cellsOf 27 = 3 := by kernel_rfl
theorem cells30 : Tryz.prog.cellsOf 30 = 2 := by kernel_rfl
theorem cells56 : Tryz.prog.cellsOf 56 = 4 := by kernel_rfl
theorem list3 {α : Type} {l : List α} (h : l.length = 3) : ∃ a b c, l = [a, b, c] := by
 rcases l with _ | ⟨a, _ | ⟨b, _ | ⟨c, _ | ⟨d, r⟩⟩⟩⟩ <;> simp at h
 exact ⟨a, b, c, rfl⟩
theorem gl_cells {H : Type} {enc : TypeId × Value → H} {w : World} {base : Nat} {sp : Nat → Bool} {held : Bool} {fuel : Nat} {cs : List Value} {y : DataW H × List MemPlace}
 (h : DataW.trod enc Tryz.prog w base sp held fuel 156 cs = some y) : ∃ x : G3, cs = [.bool x.nm, .string x.tl, .string x.ar] ∧ x.le maxLen := by
 obtain ⟨y0, y1, y2, n, hx, hlen, h0, h1, h2⟩ := Go.Deep.trod_struct3 Tryz.underlying156 h
 rw [cells156] at hlen
 obtain ⟨c0, c1, c2, rfl⟩ := list3 hlen
 simp only [cells9, cells4] at h0 h1 h2
 obtain ⟨s0, e0, _⟩ := DataW.trod_bool Tryz.underlying4 h0
 obtain ⟨s1, e1, _, hs1⟩ := DataW.trod_string Tryz.underlying9 h1
 obtain ⟨s2, e2, _, hs2⟩ := DataW.trod_string Tryz.underlying9 h2
 simp at e0 e1 e2
 exact ⟨⟨s0, s1, s2⟩, by rw [e0, e1, e2], hs1, hs2⟩
theorem add_none (b off i : Nat) : (⟨b, off, none⟩ : Addr).add i = ⟨b, off + i, none⟩ := by unfold Addr.add; split <;> simp_all
theorem openedG {H : Type} {enc : TypeId × Value → H} {W : World} {fuel : Nat} {cs : List Value} {y : DataW H × List MemPlace}
 (hf : DataW.trod enc Tryz.prog W 0 (fun _ => true) true fuel 83 cs = some y) :
 ∃ (a : Option Addr) (cap : Nat) (is : List G3), cs = [.slice a is.length cap] ∧ is.length ≤ maxLen ∧ (∀ i, (is.getD i g3z).le maxLen) ∧ GlsAt W a is := by
 rcases Go.Deep.open_slice Tryz.underlying83 hf with ⟨rfl, _⟩ | ⟨a, len, cap, m, n, D, Pl, rfl, _, hl, hm, hmm, _, hx⟩
 · exact ⟨none, 0, [], rfl, Nat.zero_le _, fun i => ⟨Nat.zero_le _, Nat.zero_le _⟩, .inl rfl⟩
 · simp only [if_true] at hmm
   subst hmm
   have hex : ∀ i, i < m → ∃ x : G3, W.cells? 0 (a.add (i * 3)) 3 = some [.bool x.nm, .string x.tl, .string x.ar] ∧ x.le maxLen := fun i hi => by
    obtain ⟨cs', h1, h2⟩ := hx i hi
    obtain ⟨x, rfl, hs⟩ := gl_cells h2
    rw [cells156] at h1
    exact ⟨x, h1, hs⟩
   obtain ⟨V, hV⟩ := @Go.Deep.choose_lt G3 ⟨g3z⟩ m (fun i x => W.cells? 0 (a.add (i * 3)) 3 = some [.bool x.nm, .string x.tl, .string x.ar] ∧ x.le maxLen) hex
   have hlen : ((List.range len).map V).length = len := by simp
   have hget : ∀ i, i < len → ((List.range len).map V).getD i g3z = V i := fun i hi => by simp [List.getD, hi]
   refine ⟨some a, m, (List.range len).map V, by rw [hlen], by rw [hlen]; omega, getD_smallG (fun i hi => ?_), ?_⟩
   · rw [hlen] at hi
     rw [hget i hi]
     exact (hV i (by omega)).2
   · rcases Nat.eq_zero_or_pos len with h0 | h0
     · exact .inl (by rw [h0]; rfl)
     · obtain ⟨b, off, spot⟩ := a
       obtain ⟨_, _, hc⟩ := World.cells?_some (hV 0 (by omega)).1
       have hc0 := hc 0 (by omega)
       have hspot : spot = none := by simpa [Addr.add] using World.cell?_spot hc0
       subst hspot
       refine .inr ⟨b, off, rfl, ?_, fun i hi => ?_⟩
       · rw [add_none, add_none] at hc0
         rcases Nat.lt_or_ge b W.heap.size with h | h
         · exact h
         · simp [World.cell?, Array.getElem?_eq_none h] at hc0
       · rw [hlen] at hi
         rw [hget i hi]
         obtain ⟨_, _, hc⟩ := World.cells?_some (hV i (by omega)).1
         have e0 := hc 0 (by omega)
         have e1 := hc 1 (by omega)
         have e2 := hc 2 (by omega)
         rw [add_none, add_none] at e0 e1 e2
         exact ⟨e0, e1, e2⟩
theorem rec_cells {H : Type} {enc : TypeId × Value → H} {W : World} {fuel : Nat} {cs : List Value} {y : DataW H × List MemPlace}
 (h : DataW.trod enc Tryz.prog W 0 (fun _ => true) true fuel 85 cs = some y) : ∃ x : R3, ∃ ai ci, cs = [.string x.key, .slice ai x.gs.length ci, .string x.out] ∧ x.le maxLen ∧ GlsAt W ai x.gs := by
 obtain ⟨y0, y1, y2, n, hx, hlen, h0, h1, h2⟩ := Go.Deep.trod_struct3 Tryz.underlying85 h
 rw [cells85] at hlen
 obtain ⟨c0, c1, c2, rfl⟩ := list3 hlen
 simp only [cells9, cells83] at h0 h1 h2
 obtain ⟨s0, e0, _, hs0⟩ := DataW.trod_string Tryz.underlying9 h0
 obtain ⟨s2, e2, _, hs2⟩ := DataW.trod_string Tryz.underlying9 h2
 obtain ⟨ai, ci, gs, e1, hl, hs, hat⟩ := openedG h1
 simp at e0 e1 e2
 exact ⟨⟨s0, gs, s2⟩, ai, ci, by rw [e0, e1, e2], ⟨hs0, hl, hs, hs2⟩, hat⟩
theorem openedR {H : Type} {enc : TypeId × Value → H} {W : World} {fuel : Nat} {cs : List Value} {y : DataW H × List MemPlace}
 (hf : DataW.trod enc Tryz.prog W 0 (fun _ => true) true fuel 23 cs = some y) :
 ∃ (a : Option Addr) (cap : Nat) (is : List R3), cs = [.slice a is.length cap] ∧ is.length ≤ maxLen ∧ (∀ i, (is.getD i r3z).le maxLen) ∧ RecsAt W a is := by
 rcases Go.Deep.open_slice Tryz.underlying23 hf with ⟨rfl, _⟩ | ⟨a, len, cap, m, n, D, Pl, rfl, _, hl, hm, hmm, _, hx⟩
 · exact ⟨none, 0, [], rfl, Nat.zero_le _, getD_smallR (fun i hi => absurd hi (Nat.not_lt_zero _)), .inl rfl⟩
 · simp only [if_true] at hmm
   subst hmm
   have hex : ∀ i, i < m → ∃ x : R3, ∃ ai ci, W.cells? 0 (a.add (i * 3)) 3 = some [.string x.key, .slice ai x.gs.length ci, .string x.out] ∧ x.le maxLen ∧ GlsAt W ai x.gs := fun i hi => by
    obtain ⟨cs', h1, h2⟩ := hx i hi
    obtain ⟨x, ai, ci, rfl, hs, hg⟩ := rec_cells h2
    rw [cells85] at h1
    exact ⟨x, ai, ci, h1, hs, hg⟩
   obtain ⟨V, hV⟩ := @Go.Deep.choose_lt R3 ⟨r3z⟩ m (fun i x => ∃ ai ci, W.cells? 0 (a.add (i * 3)) 3 = some [.string x.key, .slice ai x.gs.length ci, .string x.out] ∧ x.le maxLen ∧ GlsAt W ai x.gs) hex
   have hlen : ((List.range len).map V).length = len := by simp
   have hget : ∀ i, i < len → ((List.range len).map V).getD i r3z = V i := fun i hi => by simp [List.getD, hi]
   refine ⟨some a, m, (List.range len).map V, by rw [hlen], by rw [hlen]; omega, getD_smallR (fun i hi => ?_), ?_⟩
   · rw [hlen] at hi
     rw [hget i hi]
     obtain ⟨ai, ci, _, h, _⟩ := hV i (by omega)
     exact h
   · rcases Nat.eq_zero_or_pos len with h0 | h0
     · exact .inl (by rw [h0]; rfl)
     · obtain ⟨b, off, spot⟩ := a
       obtain ⟨_, _, hk, _⟩ := hV 0 (by omega)
       obtain ⟨_, _, hc⟩ := World.cells?_some hk
       have hc0 := hc 0 (by omega)
       have hspot : spot = none := by simpa [Addr.add] using World.cell?_spot hc0
       subst hspot
       refine .inr ⟨b, off, rfl, ?_, fun i hi => ?_⟩
       · rw [add_none, add_none] at hc0
         rcases Nat.lt_or_ge b W.heap.size with h | h
         · exact h
         · simp [World.cell?, Array.getElem?_eq_none h] at hc0
       · rw [hlen] at hi
         rw [hget i hi]
         obtain ⟨ai, ci, hk, _, hg⟩ := hV i (by omega)
         obtain ⟨_, _, hc⟩ := World.cells?_some hk
         have e0 := hc 0 (by omega)
         have e1 := hc 1 (by omega)
         have e2 := hc 2 (by omega)
         rw [add_none, add_none] at e0 e1 e2
         exact ⟨ai, ci, e0, e1, e2, hg⟩
theorem openedS {H : Type} {enc : TypeId × Value → H} {W : World} {fuel : Nat} {a : Option Addr} {len cap : Nat} {x : DataW H × List MemPlace}
 (hf : DataW.trod enc Tryz.prog W 0 (fun _ => true) true fuel 22 [.slice a len cap] = some x) :
 ∃ ss : List ByteArray, ss.length = len ∧ len ≤ maxLen ∧ (∀ i, (ss.getD i ByteArray.empty).size ≤ maxLen) ∧ StrsAt W a ss := by
 rcases open_strings Tryz.underlying22 Tryz.underlying9 cells9 hf with ⟨hcs, _⟩ | ⟨ad, l, c, sa, hcs, _, hl, hm, hz, _, hcell, hws⟩
 · simp at hcs
   obtain ⟨rfl, rfl, rfl⟩ := hcs
   exact ⟨[], rfl, Nat.zero_le _, fun i => by simp, .inl rfl⟩
 · simp at hcs
   obtain ⟨rfl, rfl, rfl⟩ := hcs
   simp only [if_true] at hz
   have hlen : (sa.take len).length = len := by rw [List.length_take]; omega
   have hget : ∀ i, i < len → (sa.take len).getD i ByteArray.empty = sa.getD i ByteArray.empty := fun i hi => by
    simp [List.getD, hi]
   refine ⟨sa.take len, hlen, by omega, getD_small (fun i hi => ?_), ?_⟩
   · rw [hlen] at hi
     rw [hget i hi]
     have hi' : i < sa.length := by omega
     have e : sa.getD i ByteArray.empty = sa[i] := by simp [hi']
     rw [e]
     exact hws _ (List.getElem_mem hi')
   · rcases Nat.eq_zero_or_pos len with h0 | h0
     · exact .inl (by rw [h0]; rfl)
     · obtain ⟨b, off, spot⟩ := ad
       have hc := hcell 0 (by omega)
       have hspot : spot = none := by simpa [Addr.add] using World.cell?_spot hc
       subst hspot
       have hadd : ∀ i, (⟨b, off, none⟩ : Addr).add i = ⟨b, off + i, none⟩ := fun i => by unfold Addr.add; split <;> simp_all
       refine .inr ⟨b, off, rfl, ?_, fun i hi => ?_⟩
       · rw [hadd 0] at hc
         rcases Nat.lt_or_ge b W.heap.size with h | h
         · exact h
         · simp [World.cell?, Array.getElem?_eq_none h] at hc
       · rw [hlen] at hi
         rw [hget i hi, ← hadd i]
         exact hcell i (by omega)
theorem list2' {α : Type} {l : List α} (h : l.length = 2) : ∃ a0 a1, l = [a0, a1] := by
 match l, h with
 | [a0, a1], _ => exact ⟨a0, a1, rfl⟩
theorem list3' {α : Type} {l : List α} (h : l.length = 3) : ∃ a0 a1 a2, l = [a0, a1, a2] := by
 match l, h with
 | [a0, a1, a2], _ => exact ⟨a0, a1, a2, rfl⟩
theorem list4' {α : Type} {l : List α} (h : l.length = 4) : ∃ a0 a1 a2 a3, l = [a0, a1, a2, a3] := by
 match l, h with
 | [a0, a1, a2, a3], _ => exact ⟨a0, a1, a2, a3, rfl⟩
theorem resu_cells {H : Type} {enc : TypeId × Value → H} {w : World} {base : Nat} {sp : Nat → Bool} {held : Bool} {fuel : Nat} {cs : List Value} {y : DataW H × List MemPlace}
 (h : DataW.trod enc Tryz.prog w base sp held fuel 30 cs = some y) : ∃ (c : Int) (t : ByteArray), cs = [.int .i64 c, .string t] ∧ t.size ≤ maxLen := by
 obtain ⟨y0, y1, n, hx, hlen, h0, h1⟩ := trod_struct2 Tryz.underlying30 h
 rw [cells30] at hlen
 obtain ⟨c0, c1, rfl⟩ := list2' hlen
 simp only [cells9, cells3] at h0 h1
 obtain ⟨n0, e0, _, _⟩ := DataW.trod_int Tryz.underlying3 h0
 obtain ⟨s, e1, _, hs⟩ := DataW.trod_string Tryz.underlying9 h1
 simp at e0 e1
 exact ⟨n0, s, by rw [e0, e1], hs⟩
theorem make_cells {H : Type} {enc : TypeId × Value → H} {w : World} {base : Nat} {sp : Nat → Bool} {held : Bool} {fuel : Nat} {cs : List Value} {y : DataW H × List MemPlace}
 (h : DataW.trod enc Tryz.prog w base sp held fuel 27 cs = some y) : ∃ x : M3, cs = [.string x.nm, .string x.tl, .string x.ar] ∧ x.le maxLen := by
 obtain ⟨y0, y1, y2, n, hx, hlen, h0, h1, h2⟩ := Go.Deep.trod_struct3 Tryz.underlying27 h
 rw [cells27] at hlen
 obtain ⟨c0, c1, c2, rfl⟩ := list3' hlen
 simp only [cells9] at h0 h1 h2
 obtain ⟨s0, e0, _, hs0⟩ := DataW.trod_string Tryz.underlying9 h0
 obtain ⟨s1, e1, _, hs1⟩ := DataW.trod_string Tryz.underlying9 h1
 obtain ⟨s2, e2, _, hs2⟩ := DataW.trod_string Tryz.underlying9 h2
 simp at e0 e1 e2
 exact ⟨⟨s0, s1, s2⟩, by rw [e0, e1, e2], hs0, hs1, hs2⟩
theorem look_cells {H : Type} {enc : TypeId × Value → H} {w : World} {base : Nat} {sp : Nat → Bool} {held : Bool} {fuel : Nat} {cs : List Value} {y : DataW H × List MemPlace}
 (h : DataW.trod enc Tryz.prog w base sp held fuel 56 cs = some y) : ∃ x : L4, cs = [.bool x.has, .string x.nm, .int .i64 x.cd, .string x.tx] ∧ x.le maxLen := by
 obtain ⟨y0, y1, y2, n, hx, hlen, h0, h1, h2⟩ := Go.Deep.trod_struct3 Tryz.underlying56 h
 rw [cells56] at hlen
 obtain ⟨c0, c1, c2, c3, rfl⟩ := list4' hlen
 simp only [cells9, cells4, cells30] at h0 h1 h2
 obtain ⟨s0, e0, _⟩ := DataW.trod_bool Tryz.underlying4 h0
 obtain ⟨s1, e1, _, hs1⟩ := DataW.trod_string Tryz.underlying9 h1
 obtain ⟨c, t, e2, ht⟩ := resu_cells h2
 simp at e0 e1 e2
 exact ⟨⟨s0, s1, c, t⟩, by rw [e0, e1, e2.1, e2.2], hs1, ht⟩
theorem add_none' (b off i : Nat) : (⟨b, off, none⟩ : Addr).add i = ⟨b, off + i, none⟩ := by unfold Addr.add; split <;> simp_all
theorem openedL {H : Type} {enc : TypeId × Value → H} {W : World} {fuel : Nat} {cs : List Value} {y : DataW H × List MemPlace}
 (hf : DataW.trod enc Tryz.prog W 0 (fun _ => true) true fuel 28 cs = some y) :
 ∃ (a : Option Addr) (cap : Nat) (is : List L4), cs = [.slice a is.length cap] ∧ is.length ≤ maxLen ∧ (∀ i, (is.getD i l4z).le maxLen) ∧ LksAt W a is := by
 rcases Go.Deep.open_slice Tryz.underlying28 hf with ⟨rfl, _⟩ | ⟨a, len, cap, m, n, D, Pl, rfl, _, hl, hm, hmm, _, hx⟩
 · exact ⟨none, 0, [], rfl, Nat.zero_le _, getD_smallL (fun i hi => absurd hi (Nat.not_lt_zero _)), .inl rfl⟩
 · simp only [if_true] at hmm
   subst hmm
   have hex : ∀ i, i < m → ∃ x : L4, W.cells? 0 (a.add (i * 4)) 4 = some [.bool x.has, .string x.nm, .int .i64 x.cd, .string x.tx] ∧ x.le maxLen := fun i hi => by
    obtain ⟨cs', h1, h2⟩ := hx i hi
    obtain ⟨x, rfl, hs⟩ := look_cells h2
    rw [cells56] at h1
    exact ⟨x, h1, hs⟩
   obtain ⟨V, hV⟩ := @Go.Deep.choose_lt L4 ⟨l4z⟩ m (fun i x => W.cells? 0 (a.add (i * 4)) 4 = some [.bool x.has, .string x.nm, .int .i64 x.cd, .string x.tx] ∧ x.le maxLen) hex
   have hlen : ((List.range len).map V).length = len := by simp
   have hget : ∀ i, i < len → ((List.range len).map V).getD i l4z = V i := fun i hi => by simp [List.getD, hi]
   refine ⟨some a, m, (List.range len).map V, by rw [hlen], by rw [hlen]; omega, getD_smallL (fun i hi => ?_), ?_⟩
   · rw [hlen] at hi
     rw [hget i hi]
     exact (hV i (by omega)).2
   · rcases Nat.eq_zero_or_pos len with h0 | h0
     · exact .inl (by rw [h0]; rfl)
     · obtain ⟨b, off, spot⟩ := a
       obtain ⟨_, _, hc⟩ := World.cells?_some (hV 0 (by omega)).1
       have hc0 := hc 0 (by omega)
       have hspot : spot = none := by simpa [Addr.add] using World.cell?_spot hc0
       subst hspot
       refine .inr ⟨b, off, rfl, ?_, fun i hi => ?_⟩
       · rw [add_none', add_none'] at hc0
         rcases Nat.lt_or_ge b W.heap.size with h | h
         · exact h
         · simp [World.cell?, Array.getElem?_eq_none h] at hc0
       · rw [hlen] at hi
         rw [hget i hi]
         obtain ⟨_, _, hc⟩ := World.cells?_some (hV i (by omega)).1
         have e0 := hc 0 (by omega)
         have e1 := hc 1 (by omega)
         have e2 := hc 2 (by omega)
         have e3 := hc 3 (by omega)
         rw [add_none', add_none'] at e0 e1 e2 e3
         exact ⟨e0, e1, e2, e3⟩
theorem own : ownKnob Tryz.prog.godebug = none := by kernel_rfl
theorem laidOut : laidOutB Tryz.prog = true := by kernel_rfl
def cell1 : DataW Unit → Value
 | .lit (.int k n) => .int k n
 | .lit (.bool b) => .bool b
 | .lit (.string l) => .string ⟨l.toArray⟩
 | _ => .bool false
def cells1 : DataW Unit → List Value
 | .agg es => es.map cell1
 | d => [cell1 d]
def cells2 : DataW Unit → Array Value
 | .agg ds => (ds.flatMap cells1).toArray
 | _ => #[]
def withTab (g : Nat) (t : Array Value) (w : World) : World := { w with heap := w.heap.modify g fun
 | .cells _ ty frozen => .cells t ty frozen
 | o => o }
end Go.Proofs.YtkhlekmicpmpkaaGreatDoor
