import Derived.Test.YtignmnbgedmfbaaDoorT9
import Derived.Lib.LaidU8
import Derived.MakeChecks
import Derived.OpenShut
import Derived.Deep.Strs
import Derived.Deep.Slices
import Derived.OpenVars
import Derived.ProofKit
namespace Go.Proofs.YtignmnbgedmfbaaDoor
open Go.RowKit

set_option maxHeartbeats 2000000 in
theorem c3 (a : Option Addr) (cap : Nat) (is : List I3) (w : World) (hs : ∀ i, (is.getD i i3z).tx.size ≤ 9223372036854775807) (hl : is.length ≤ 9223372036854775807) (hat : InsAt w a is) (hsh : ShapesAt w) :
    Calls Tryd.prog 3 #[.agg #[.slice a is.length cap]] w fun e w' => e = .returned (.bool true) ∧ Below w.heap.size w w' := by
  have HAT : Hid (InsAt w a is) := hat
  have HSH : Hid (ShapesAt w) := hsh
  have hB0 : Below w.heap.size w (w.alloc (.cells #[.slice a is.length cap] 24)) := (Below.refl _ _).alloc (Nat.le_refl _) _
  clear hat hsh
  go_enter Tryd.func3, Tryd.ntmps3
  go_wp2_with fail
  refine (c7 a cap is _ hs hl (ins_below HAT.out hB0)).mono ?_
  rintro e w1 ⟨⟨r, rfl, hr⟩, hb1⟩
  have hB1 : Below w.heap.size w w1 := hB0.trans (hb1.mono hB0.size)
  have d1 : w1.cell? ⟨w.heap.size, 0, none⟩ = some (.slice a is.length cap) := (hb1.cell (p := ⟨w.heap.size, 0, none⟩) (by simp)).trans (by simp [go_sem])
  have z1 : w.heap.size + 1 ≤ w1.heap.size := by have := hb1.size; simp at this; omega
  clear hb1
  by_cases hr0 : r < 0
  · clear hr
    go_wp2
    go_ret
    exact ⟨rfl, hB1⟩
  · obtain ⟨hl1, hs1, _⟩ := hr (by omega)
    have hs2 : Hid (∀ i, (is.getD i i3z).tx.size ≤ 1048700) := fun i => Nat.le_trans (hs1 i) (by omega)
    clear hs hs1
    go_wp2_with fail
    refine (c9 a cap is w1 hl1 (ins_below HAT.out hB1)).mono ?_
    rintro e w2 ⟨⟨a2, rfl, h2⟩, hb2⟩
    have H2 : Hid (InsAt w2 a2 is) := h2
    have hB2 : Below w.heap.size w w2 := hB1.trans (hb2.mono hB1.size)
    have d2 : w2.cell? ⟨w.heap.size, 0, none⟩ = some (.slice a is.length cap) := (hb2.cell (p := ⟨w.heap.size, 0, none⟩) (Nat.lt_of_lt_of_le (Nat.lt_succ_self _) z1)).trans d1
    have z2 : w.heap.size + 1 ≤ w2.heap.size := Nat.le_trans z1 hb2.size
    clear h2 hb2 d1
    go_wp2_with fail
    refine (c8 a2 is.length is w2 hs2.out hl1 H2.out).mono ?_
    rintro e w3 ⟨rfl, hb3⟩
    have hB3 : Below w.heap.size w w3 := hB2.trans (hb3.mono hB2.size)
    have d3 : w3.cell? ⟨w.heap.size, 0, none⟩ = some (.slice a is.length cap) := (hb3.cell (p := ⟨w.heap.size, 0, none⟩) (Nat.lt_of_lt_of_le (Nat.lt_succ_self _) z2)).trans d2
    have z3 : w.heap.size + 1 ≤ w3.heap.size := Nat.le_trans z2 hb3.size
    clear hb3 d2
    go_wp2_with fail
    refine (c9 a cap is w3 hl1 (ins_below HAT.out hB3)).mono ?_
    rintro e w4 ⟨⟨a4, rfl, h4⟩, hb4⟩
    have H4 : Hid (InsAt w4 a4 is) := h4
    have hB4 : Below w.heap.size w w4 := hB3.trans (hb4.mono hB3.size)
    have d4 : w4.cell? ⟨w.heap.size, 0, none⟩ = some (.slice a is.length cap) := (hb4.cell (p := ⟨w.heap.size, 0, none⟩) (Nat.lt_of_lt_of_le (Nat.lt_succ_self _) z3)).trans d3
    have z4 : w.heap.size + 1 ≤ w4.heap.size := Nat.le_trans z3 hb4.size
    clear h4 hb4 d3
    have hA5 : Below w4.heap.size w4 (w4.alloc (.cells #[.slice a4 is.length is.length] 29)) := (Below.refl _ _).alloc (Nat.le_refl _) _
    go_wp2_with fail
    refine (c10 a4 is.length is _ hs2.out hl1 (ins_below H4.out hA5) (shapes_below HSH.out (hB4.trans (hA5.mono hB4.size)))).mono ?_
    rintro e w5 ⟨rfl, hb5⟩
    have hB5 : Below w.heap.size w w5 := (hB4.alloc hB4.size _).trans (hb5.mono (by have := hB4.size; simp; omega))
    have d5 : w5.cell? ⟨w.heap.size, 0, none⟩ = some (.slice a is.length cap) := (hb5.cell (p := ⟨w.heap.size, 0, none⟩) (by simp; omega)).trans ((hA5.cell (p := ⟨w.heap.size, 0, none⟩) (Nat.lt_of_lt_of_le (Nat.lt_succ_self _) z4)).trans d4)
    have x5 : w5.cell? ⟨w4.heap.size, 0, none⟩ = some (.slice a4 is.length is.length) := (hb5.cell (p := ⟨w4.heap.size, 0, none⟩) (by simp)).trans (by simp [go_sem])
    have H5 : Hid (InsAt w5 a4 is) := ins_below (ins_below H4.out hA5) hb5
    have HA5 : Hid (InsAt w5 a is) := ins_below HAT.out hB5
    have z5 : w4.heap.size < w5.heap.size := by have := hb5.size; simp at this; omega
    clear hb5 d4 hA5
    go_wp2_with fail
    go_region_with (first | (go_at_call 9; refine (c9 a cap is _ hl1 ?_).mono ?_; exact ins_below HA5.out ((Below.refl _ _).drew); rintro e w6 ⟨⟨a6, rfl, h6⟩, hb6⟩; have x6 : w6.cell? ⟨w4.heap.size, 0, none⟩ = some (.slice a4 is.length is.length) := (hb6.cell (p := ⟨w4.heap.size, 0, none⟩) z5).trans x5) | (go_at_call 11; refine (c11 a4 a6 is.length is.length is _ hl1 ?_ ?_).mono ?_; exact ins_below (ins_below H5.out ((Below.refl _ _).drew)) hb6; exact h6; rintro e w7 ⟨rfl, hb7⟩))
    all_goals go_wp2
    all_goals go_ret
    all_goals exact ⟨rfl, ((hB5.drew).trans (hb6.mono hB5.size)).trans (hb7.mono (Nat.le_trans hB5.size hb6.size))⟩
end Go.Proofs.YtignmnbgedmfbaaDoor
namespace Go.Proofs.YtignmnbgedmfbaaDoor
open Go.RowKit

theorem gShapes : Tryd.prog.globalNamed "loop.example/kiln/impl.shapes" = some 0 := by kernel_rfl
theorem gShapesT : (Tryd.prog.globals[0]?).map (·.type) = some 108 := by kernel_rfl
theorem cells107 : Tryd.prog.cellsOf 107 = 3 := by kernel_rfl
theorem cells108 : Tryd.prog.cellsOf 108 = 36 := by kernel_rfl
theorem cells9 : Tryd.prog.cellsOf 9 = 1 := by kernel_rfl
theorem cells4 : Tryd.prog.cellsOf 4 = 1 := by kernel_rfl

theorem list3 {α : Type} {l : List α} (h : l.length = 3) : ∃ a b c, l = [a, b, c] := by
  rcases l with _ | ⟨a, _ | ⟨b, _ | ⟨c, _ | ⟨d, l⟩⟩⟩⟩
  · cases h
  · cases h
  · cases h
  · exact ⟨a, b, c, rfl⟩
  · simp at h
/-- One shape's cells. -/
theorem shape_cells {H : Type} {enc : TypeId × Value → H} {w : World} {base : Nat} {sp : Nat → Bool} {held : Bool} {fuel : Nat} {cs : List Value} {l : List UInt8} {a b : Bool} {p : List MemPlace}
    (h : DataW.trod enc Tryd.prog w base sp held fuel 107 cs = some (.agg [.lit (.string l), .lit (.bool a), .lit (.bool b)], p)) : cs = [.string ⟨l.toArray⟩, .bool a, .bool b] := by
  obtain ⟨y0, y1, y2, n, hx, hlen, h0, h1, h2⟩ := Go.Deep.trod_struct3 Tryd.underlying107 h
  rw [cells107] at hlen
  obtain ⟨c0, c1, c2, rfl⟩ := list3 hlen
  simp only [cells9, cells4] at h0 h1 h2
  obtain ⟨s, e0, r0, _⟩ := DataW.trod_string Tryd.underlying9 h0
  obtain ⟨a', e1, r1⟩ := DataW.trod_bool Tryd.underlying4 h1
  obtain ⟨b', e2, r2⟩ := DataW.trod_bool Tryd.underlying4 h2
  subst r0 r1 r2
  simp at e0 e1 e2 hx
  obtain ⟨⟨q0, q1, q2⟩, _⟩ := hx
  have : s = ⟨l.toArray⟩ := by apply ByteArray.ext; rw [q0]
  rw [e0, e1, e2, this, q1, q2]

theorem map_fst_get {H : Type} {xs : List (DataW H × List MemPlace)} {ds : List (DataW H)} (h : xs.map (·.1) = ds) {i : Nat} {d : DataW H} (hd : ds[i]? = some d) : ∃ p, xs[i]? = some (d, p) := by
  rw [← h, List.getElem?_map] at hd
  cases hx : xs[i]? with
  | none => rw [hx] at hd; simp at hd
  | some y => rw [hx] at hd; simp at hd; exact ⟨y.2, by rw [← hd]⟩
theorem take3 {α : Type} {l : List α} {i : Nat} {a b c : α} (h : (l.drop i).take 3 = [a, b, c]) : l[i]? = some a ∧ l[i + 1]? = some b ∧ l[i + 2]? = some c := by
  have g : ∀ j, j < 3 → ((l.drop i).take 3)[j]? = l[i + j]? := fun j hj => by rw [List.getElem?_take_of_lt hj, List.getElem?_drop]
  rw [h] at g
  exact ⟨(g 0 (by omega)).symm, (g 1 (by omega)).symm, (g 2 (by omega)).symm⟩

/-- The shapes as the row lists them. -/
def shapeD {H : Type} (op : Nat) : DataW H := .agg [.lit (.string (word op)), .lit (.bool (usesTo op)), .lit (.bool (usesTx op))]
theorem laid_at (op : Nat) (h1 : 1 ≤ op) (h2 : op ≤ 11) : ∃ ds : List (DataW Unit), Rows.laid_loop_example_kiln_impl_shapes = DataW.agg ds ∧ ds[op]? = some (shapeD op) := by
  refine ⟨_, rfl, ?_⟩
  obtain rfl | rfl | rfl | rfl | rfl | rfl | rfl | rfl | rfl | rfl | rfl : op = 1 ∨ op = 2 ∨ op = 3 ∨ op = 4 ∨ op = 5 ∨ op = 6 ∨ op = 7 ∨ op = 8 ∨ op = 9 ∨ op = 10 ∨ op = 11 := by omega
  all_goals rfl
theorem shapes_of_reads {W : World} (h : Go.Lib.VarReads Tryd.prog W "loop.example/kiln/impl.shapes" Rows.laid_loop_example_kiln_impl_shapes) : ShapesAt W := by
  obtain ⟨g, t, cs, fuel, p, hg, hty, hvar, hd⟩ := h
  obtain rfl := Option.some.inj (gShapes.symm.trans hg)
  obtain rfl := Option.some.inj (gShapesT.symm.trans hty)
  obtain ⟨xs, m, _, hx, hcl, hxl, hel⟩ := DataW.trod_array Tryd.underlying108 hd
  intro op h1 h2
  obtain ⟨ds, hds, hget⟩ := laid_at op h1 h2
  rw [hds] at hx
  have hmap : xs.map (·.1) = ds := by
    have := congrArg Prod.fst hx
    injection this with this
    exact this.symm
  obtain ⟨q, hq⟩ := map_fst_get hmap hget
  have he := hel op (by omega)
  rw [hq, cells107] at he
  have hc := shape_cells he
  obtain ⟨r0, r1, r2⟩ := take3 hc
  have hv := World.var?_cell hg hvar
  refine ⟨?_, ?_, ?_⟩
  · rw [hv, ← Array.getElem?_toList]; exact r0
  · rw [hv, ← Array.getElem?_toList]; exact r1
  · rw [hv, ← Array.getElem?_toList]; exact r2
end Go.Proofs.YtignmnbgedmfbaaDoor
namespace Go.Proofs.YtignmnbgedmfbaaDoor
open Go.ChangeShapes Go.WideShapes Go.ChangeAt Go.RowKit

theorem cells102 : Tryd.prog.cellsOf 102 = 3 := by kernel_rfl
theorem cells24 : Tryd.prog.cellsOf 24 = 1 := by kernel_rfl
theorem cells22 : Tryd.prog.cellsOf 22 = 1 := by kernel_rfl
theorem cells3 : Tryd.prog.cellsOf 3 = 1 := by kernel_rfl
theorem laidOut : laidOutB Tryd.prog = true := by kernel_rfl

/-- One instruction's cells. -/
theorem ins_cells {H : Type} {enc : TypeId × Value → H} {w : World} {base : Nat} {sp : Nat → Bool} {held : Bool} {fuel : Nat} {cs : List Value} {y : DataW H × List MemPlace}
    (h : DataW.trod enc Tryd.prog w base sp held fuel 102 cs = some y) : ∃ x : I3, cs = [.int .i64 x.op, .string x.tx, .int .i64 x.to] ∧ x.tx.size ≤ maxLen := by
  obtain ⟨y0, y1, y2, n, hx, hlen, h0, h1, h2⟩ := Go.Deep.trod_struct3 Tryd.underlying102 h
  rw [cells102] at hlen
  obtain ⟨c0, c1, c2, rfl⟩ := list3 hlen
  simp only [cells9, cells3] at h0 h1 h2
  obtain ⟨op, e0, _, _⟩ := DataW.trod_int Tryd.underlying3 h0
  obtain ⟨s, e1, _, hs⟩ := DataW.trod_string Tryd.underlying9 h1
  obtain ⟨to, e2, _, _⟩ := DataW.trod_int Tryd.underlying3 h2
  simp at e0 e1 e2
  exact ⟨⟨op, s, to⟩, by rw [e0, e1, e2], hs⟩
theorem add_none (b off i : Nat) : (⟨b, off, none⟩ : Addr).add i = ⟨b, off + i, none⟩ := by unfold Addr.add; split <;> simp_all

/-- A slice of instructions that came in. -/
theorem opened {H : Type} {enc : TypeId × Value → H} {W : World} {fuel : Nat} {cs : List Value} {y : DataW H × List MemPlace}
    (hf : DataW.trod enc Tryd.prog W 0 (fun _ => true) true fuel 22 cs = some y) :
    ∃ (a : Option Addr) (cap : Nat) (is : List I3), cs = [.slice a is.length cap] ∧ is.length ≤ maxLen ∧ (∀ i, (is.getD i i3z).tx.size ≤ maxLen) ∧ InsAt W a is := by
  rcases Go.Deep.open_slice Tryd.underlying22 hf with ⟨rfl, _⟩ | ⟨a, len, cap, m, n, D, Pl, rfl, _, hl, hm, hmm, _, hx⟩
  · exact ⟨none, 0, [], rfl, Nat.zero_le _, fun i => by simp [i3z, ByteArray.size], .inl rfl⟩
  · simp only [if_true] at hmm
    subst hmm
    have hex : ∀ i, i < m → ∃ x : I3, W.cells? 0 (a.add (i * 3)) 3 = some [.int .i64 x.op, .string x.tx, .int .i64 x.to] ∧ x.tx.size ≤ maxLen := fun i hi => by
      obtain ⟨cs', h1, h2⟩ := hx i hi
      obtain ⟨x, rfl, hs⟩ := ins_cells h2
      rw [cells102] at h1
      exact ⟨x, h1, hs⟩
    obtain ⟨V, hV⟩ := @Go.Deep.choose_lt I3 ⟨i3z⟩ m (fun i x => W.cells? 0 (a.add (i * 3)) 3 = some [.int .i64 x.op, .string x.tx, .int .i64 x.to] ∧ x.tx.size ≤ maxLen) hex
    have hlen : ((List.range len).map V).length = len := by simp
    have hget : ∀ i, i < len → ((List.range len).map V).getD i i3z = V i := fun i hi => by simp [List.getD, hi]
    refine ⟨some a, m, (List.range len).map V, by rw [hlen], by rw [hlen]; omega, getD_small3 (fun i hi => ?_), ?_⟩
    · rw [hlen] at hi
      rw [hget i hi]
      exact (hV i (by omega)).2
    · rcases Nat.eq_zero_or_pos len with h0 | h0
      · exact .inl (by rw [h0]; rfl)
      · obtain ⟨b, off, spot⟩ := a
        obtain ⟨_, _, hc⟩ := World.cells?_some (hV 0 (by omega)).1
        have hc0 := hc 0 (by omega)
        have hspot : spot = none := by simpa [Addr.add] using World.cell?_spot hc0
        subst hspot
        refine .inr ⟨b, off, rfl, ?_, fun i hi => ?_⟩
        · rw [add_none, add_none] at hc0
          rcases Nat.lt_or_ge b W.heap.size with h | h
          · exact h
          · simp [World.cell?, Array.getElem?_eq_none h] at hc0
        · rw [hlen] at hi
          rw [hget i hi]
          obtain ⟨_, _, hc⟩ := World.cells?_some (hV i (by omega)).1
          have e0 := hc 0 (by omega)
          have e1 := hc 1 (by omega)
          have e2 := hc 2 (by omega)
          rw [add_none, add_none] at e0 e1 e2
          exact ⟨e0, e1, e2⟩
end Go.Proofs.YtignmnbgedmfbaaDoor
