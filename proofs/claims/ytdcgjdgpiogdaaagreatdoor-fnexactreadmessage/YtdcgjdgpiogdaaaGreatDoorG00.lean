import Derived.Test.YtdcgjdgpiogdaaaGreatDoorRows
import Derived.WalkKit
import Derived.WalkSpells
import Derived.WalkLawsBesides
import Derived.Laws.BytesArg
import Derived.Deep.RegionWith
import Derived.Deep.QuietTactic
import Derived.BigQuiet
import Derived.Shelf.Strings.Builder1
import Derived.Test.YtdcgjdgpiogdaaaGreatDoorProg
import Derived.Laws.Externs
import Derived.Laws.BitsAllLaws
namespace Go.Proofs.YtdcgjdgpiogdaaaGreatDoor
open Go.RowKit

/-- A make: Name, Tool, Arg. -/
structure M3 where
  nm : ByteArray
  tl : ByteArray
  ar : ByteArray
def m3z : M3 := ⟨⟨#[]⟩, ⟨#[]⟩, ⟨#[]⟩⟩
def M3.v (x : M3) : Value := .agg #[.string x.nm, .string x.tl, .string x.ar]
/-- No string of it is longer. -/
def M3.le (x : M3) (B : Nat) : Prop := x.nm.size ≤ B ∧ x.tl.size ≤ B ∧ x.ar.size ≤ B
/-- A slice's cells hold these makes. -/
def MksAt (w : World) (a : Option Addr) (is : List M3) : Prop :=
  is = [] ∨ ∃ b off, a = some ⟨b, off, none⟩ ∧ b < w.heap.size ∧ ∀ i, i < is.length → w.cell? ⟨b, off + i * 3, none⟩ = some (.string (is.getD i m3z).nm) ∧ w.cell? ⟨b, off + i * 3 + 1, none⟩ = some (.string (is.getD i m3z).tl) ∧ w.cell? ⟨b, off + i * 3 + 2, none⟩ = some (.string (is.getD i m3z).ar)

theorem mks_some {w : World} {a : Option Addr} {is : List M3} (h : MksAt w a is) : ∃ b off, (is = [] ∨ (a = some ⟨b, off, none⟩ ∧ b < w.heap.size ∧ ∀ i, i < is.length → w.cell? ⟨b, off + i * 3, none⟩ = some (.string (is.getD i m3z).nm) ∧ w.cell? ⟨b, off + i * 3 + 1, none⟩ = some (.string (is.getD i m3z).tl) ∧ w.cell? ⟨b, off + i * 3 + 2, none⟩ = some (.string (is.getD i m3z).ar))) := by
  rcases h with h | ⟨b, off, h⟩
  · exact ⟨0, 0, .inl h⟩
  · exact ⟨b, off, .inr h⟩
theorem mks_below {w w' : World} {a : Option Addr} {is : List M3} (h : MksAt w a is) (hb : Below w.heap.size w w') : MksAt w' a is := by
  rcases h with h | ⟨b, off, h1, h2, h3⟩
  · exact .inl h
  · exact .inr ⟨b, off, h1, Nat.lt_of_lt_of_le h2 hb.size, fun i hi => by rw [hb.cell (by exact h2), hb.cell (by exact h2), hb.cell (by exact h2)]; exact h3 i hi⟩
theorem mks_setCell {w : World} {g : Nat} {is : List M3} {q : Addr} {v : Value} (h : MksAt w (some ⟨g, 0, none⟩) is) (hq : q.block ≠ g) : MksAt (w.setCell q v) (some ⟨g, 0, none⟩) is := by
  rcases h with h | ⟨b, off, h1, h2, h3⟩
  · exact .inl h
  · have hg : b = g := by injection h1 with h1; injection h1 with h1 _; exact h1.symm
    have hne : ∀ j, q ≠ ⟨b, j, none⟩ := fun j e => hq (by rw [e]; exact hg)
    refine .inr ⟨b, off, h1, by simpa using h2, fun i hi => ?_⟩
    rw [World.cell?_setCell_other _ _ _ _ (hne _), World.cell?_setCell_other _ _ _ _ (hne _), World.cell?_setCell_other _ _ _ _ (hne _)]
    exact h3 i hi
theorem getD_smallM {is : List M3} {B : Nat} (h : ∀ i, i < is.length → (is.getD i m3z).le B) (i : Nat) : (is.getD i m3z).le B := by
  rcases Nat.lt_or_ge i is.length with h' | h'
  · exact h i h'
  · have e : is.getD i m3z = m3z := by simp [List.getD, List.getElem?_eq_none h']
    rw [e]; exact ⟨Nat.zero_le _, Nat.zero_le _, Nat.zero_le _⟩

theorem adr_ne {B i j : Nat} (h : i ≠ j) : (⟨B, i, none⟩ : Addr) ≠ ⟨B, j, none⟩ := by intro e; injection e with _ e; exact h e
theorem set3_other (u : World) (B j m : Nat) (v0 v1 v2 : Value) (h0 : m ≠ j) (h1 : m ≠ j + 1) (h2 : m ≠ j + 2) : (((u.setCell ⟨B, j, none⟩ v0).setCell ⟨B, j + 1, none⟩ v1).setCell ⟨B, j + 2, none⟩ v2).cell? ⟨B, m, none⟩ = u.cell? ⟨B, m, none⟩ := by
  rw [World.cell?_setCell_other _ _ _ _ (adr_ne (Ne.symm h2)), World.cell?_setCell_other _ _ _ _ (adr_ne (Ne.symm h1)), World.cell?_setCell_other _ _ _ _ (adr_ne (Ne.symm h0))]
theorem set3_at (u : World) (B j : Nat) (v0 v1 v2 x0 x1 x2 : Value) (h0 : u.cell? ⟨B, j, none⟩ = some x0) (h1 : u.cell? ⟨B, j + 1, none⟩ = some x1) (h2 : u.cell? ⟨B, j + 2, none⟩ = some x2) :
    (((u.setCell ⟨B, j, none⟩ v0).setCell ⟨B, j + 1, none⟩ v1).setCell ⟨B, j + 2, none⟩ v2).cell? ⟨B, j, none⟩ = some v0 ∧ (((u.setCell ⟨B, j, none⟩ v0).setCell ⟨B, j + 1, none⟩ v1).setCell ⟨B, j + 2, none⟩ v2).cell? ⟨B, j + 1, none⟩ = some v1 ∧ (((u.setCell ⟨B, j, none⟩ v0).setCell ⟨B, j + 1, none⟩ v1).setCell ⟨B, j + 2, none⟩ v2).cell? ⟨B, j + 2, none⟩ = some v2 := by
  have a1 : (u.setCell ⟨B, j, none⟩ v0).cell? ⟨B, j + 1, none⟩ = some x1 := by rw [World.cell?_setCell_other _ _ _ _ (adr_ne (by omega))]; exact h1
  have a2 : ((u.setCell ⟨B, j, none⟩ v0).setCell ⟨B, j + 1, none⟩ v1).cell? ⟨B, j + 2, none⟩ = some x2 := by
    rw [World.cell?_setCell_other _ _ _ _ (adr_ne (by omega)), World.cell?_setCell_other _ _ _ _ (adr_ne (by omega))]; exact h2
  refine ⟨?_, ?_, World.cell?_setCell_same _ _ _ a2⟩
  · rw [World.cell?_setCell_other _ _ _ _ (adr_ne (by omega)), World.cell?_setCell_other _ _ _ _ (adr_ne (by omega))]; exact World.cell?_setCell_same _ _ _ h0
  · rw [World.cell?_setCell_other _ _ _ _ (adr_ne (by omega))]; exact World.cell?_setCell_same _ _ _ a1
theorem info35 : (Tryz.prog.info? 35).map (fun i => (i.zero, i.size, i.bytes)) = some (some (.agg #[.string ⟨#[]⟩, .string ⟨#[]⟩, .string ⟨#[]⟩]), 3, 48) := by kernel_rfl
theorem made3 (n j : Nat) (h : j < n * 3) : (madeCells #[Value.string ⟨#[]⟩, .string ⟨#[]⟩, .string ⟨#[]⟩] (n * 3))[j]? = (#[Value.string ⟨#[]⟩, .string ⟨#[]⟩, .string ⟨#[]⟩] : Array Value)[j % 3]? := by
  have h3 : j % 3 < 3 := Nat.mod_lt _ (by omega)
  rw [Array.getElem?_eq_getElem (by simpa [size_madeCells] using h), Array.getElem?_eq_getElem (by simpa using h3)]
  simp [madeCells, h3]

set_option maxHeartbeats 400000 in
theorem c42 (x : M3) (w : World) :
    Calls Tryz.prog 42 #[.agg #[.string x.nm, .string x.tl, .string x.ar], .agg #[.string x.nm, .string x.tl, .string x.ar]] w fun e w' => e = .returned (.bool true) ∧ Below w.heap.size w w' := by
  go_enter Tryz.func42, Tryz.ntmps42
  go_wp2
  go_ret
  exact ⟨rfl, ((Below.refl _ _).alloc (Nat.le_refl _) _).alloc (by simp) _⟩
end Go.Proofs.YtdcgjdgpiogdaaaGreatDoor
namespace Go.Proofs
open Go.Shelf
def Tryz.lays169_ren : Go.Shelf.Ren := ⟨fun | 169 => 122 | n => n, fun | 70 => 151 | 9 => 9 | 0 => 0 | 72 => 153 | 37 => 119 | 127 => 172 | 3 => 3 | 5 => 5 | n => n, fun | n => n⟩
theorem Tryz.lays169 : Go.Proofs.Lays.n169 Tryz.prog Tryz.lays169_ren := {
  mixed := by kernel_rfl
  f169 := Tryz.func122.trans (congrArg some (by kernel_rfl))
  t0 := Tryz.underlying0
  a0 := Tryz.isAgg0
  z0 := Tryz.sizeOf0
  v0 := Tryz.zeroValue0
  t3 := Tryz.underlying3
  a3 := Tryz.isAgg3
  z3 := Tryz.sizeOf3
  v3 := Tryz.zeroValue3
  t9 := Tryz.underlying9
  a9 := Tryz.isAgg9
  z9 := Tryz.sizeOf9
  v9 := Tryz.zeroValue9
  t37 := Tryz.underlying119
  a37 := Tryz.isAgg119
  z37 := Tryz.sizeOf119
  v37 := Tryz.zeroValue119
  t70 := Tryz.underlying151
  a70 := Tryz.isAgg151
  z70 := Tryz.sizeOf151
  v70 := Tryz.zeroValue151
  t72 := Tryz.underlying153
  a72 := Tryz.isAgg153
  z72 := Tryz.sizeOf153
  v72 := Tryz.zeroValue153
  t127 := Tryz.underlying172
  a127 := Tryz.isAgg172
  z127 := Tryz.sizeOf172
  v127 := Tryz.zeroValue172 }
theorem Tryz.Builder_Extra_169 : Builder.Extra Tryz.prog Tryz.lays169_ren := {
  sizeBuilder := by kernel_rfl
  liesBuilder := by kernel_rfl
  t5 := Tryz.underlying5
  a5 := Tryz.isAgg5
  z5 := Tryz.sizeOf5
  v5 := Tryz.zeroValue5
  infoByte := by kernel_rfl
  cellsByte := by kernel_rfl
  sizeByte := by kernel_rfl
  neB5 := by decide }
open Go.RowKit in
theorem Tryz.Builder_String_any (B b : Nat) (l : List UInt8) (w : World) (h : Lib.IsBuilder 153 5 B b (Lib.byteCells l) w) (hBw : B ≤ w.heap.size) :
    Calls Tryz.prog 122 #[.pointer (some ⟨b, 0, none⟩)] w fun e w' => e = .returned (.string ⟨l.toArray⟩) ∧ Below B w w' := Any.Builder_String_any Tryz.lays169 Tryz.Builder_Extra_169 B b l w h hBw
end Go.Proofs
namespace Go.Proofs.YtdcgjdgpiogdaaaGreatDoor
open Go.RowKit

theorem info153 : (Tryz.prog.info? 153).map (fun i => i.size) = some 2 := by kernel_rfl
theorem info5 : (Tryz.prog.info? 5).map (fun i => (i.zero, i.size, i.bytes)) = some (some (.int .u8 0), 1, 1) := by kernel_rfl
theorem lies153 : liesAt Tryz.prog Tryz.prog.depth 153 (2 / Tryz.prog.cellsOf 153) 0 153 1 = true := by kernel_rfl

set_option maxHeartbeats 1000000 in
set_option maxRecDepth 100000 in
/-- a builder that was written -/
theorem check_used (b : Nat) (w : World) (h0 : w.cell? ⟨b, 0, none⟩ = some (.pointer (some ⟨b, 0, none⟩))) :
    Calls Tryz.prog 137 #[.pointer (some ⟨b, 0, none⟩)] w fun e w' => e = .returned (.tuple #[]) ∧ w' = w := by
  obtain ⟨j, hj, _⟩ := Option.map_eq_some_iff.1 info153
  have kn := Lib.run_neq_ptr_same (P := Tryz.prog) w ⟨b, 0, none⟩ Tryz.underlying151 hj
  go_enter Tryz.func137, Tryz.ntmps137
  go_wp2
  go_end0
  exact ⟨rfl, rfl⟩

set_option maxHeartbeats 1000000 in
/-- a fresh one -/
theorem check_fresh (b : Nat) (w : World) (h0 : w.cell? ⟨b, 0, none⟩ = some (.pointer none)) (hsh : w.shape? b = some (153, 2)) (hfz : w.frozen? ⟨b, 0, none⟩ = false) :
    Calls Tryz.prog 137 #[.pointer (some ⟨b, 0, none⟩)] w fun e w' => e = .returned (.tuple #[]) ∧ w' = w.setCell ⟨b, 0, none⟩ (.pointer (some ⟨b, 0, none⟩)) := by
  obtain ⟨j, hj, hjs⟩ := Option.map_eq_some_iff.1 info153
  have k1 := Lib.run_to_unsafe (P := Tryz.prog) w ⟨b, 0, none⟩ Tryz.underlying151 Tryz.underlying179 hj (by rw [hjs]; decide) hsh (Nat.zero_lt_succ 1)
  have k3 := Lib.run_from_unsafe (P := Tryz.prog) w ⟨b, 0, none⟩ Tryz.underlying179 Tryz.underlying151 hj hsh lies153
  have k2 : ∀ x, Sem.run Tryz.prog (callFunc 149 #[x]) w = .ok (.value x) w := fun x => by
    rw [run_callFunc_extern Tryz.func149 (by kernel_rfl) (by kernel_rfl) (by kernel_rfl) (e := Extern.AbiNoEscape.same) (by kernel_rfl)]
    rw [Lib.run_noEscape]
    rfl
  go_enter Tryz.func137, Tryz.ntmps137
  go_wp2
  go_end0
  exact ⟨rfl, rfl⟩

theorem c137 (B b : Nat) (bs : List Value) (w : World) (h : Lib.IsBuilder 153 5 B b bs w) :
    Calls Tryz.prog 137 #[.pointer (some ⟨b, 0, none⟩)] w fun e w' => e = .returned (.tuple #[]) ∧ Lib.BuilderAt 153 5 B b (.pointer (some ⟨b, 0, none⟩)) bs w' ∧ Below B w w' ∧ w'.heap.size = w.heap.size := by
  rcases h with h | h
  · refine (check_fresh b w h.cell0 h.shape h.frozen0).mono ?_
    rintro e w' ⟨rfl, rfl⟩
    exact ⟨rfl, h.used _, (Below.refl B w).setCell (p := ⟨b, 0, none⟩) h.1 _, by simp⟩
  · refine (check_used b w h.cell0).mono ?_
    rintro e w' ⟨rfl, rfl⟩
    exact ⟨rfl, h, Below.refl B _, rfl⟩

theorem blk_lt {w : World} {b : Nat} {o : Obj} (h : w.heap[b]? = some o) : b < w.heap.size := by
  rcases Nat.lt_or_ge b w.heap.size with h' | h'
  · exact h'
  · simp [Array.getElem?_eq_none h'] at h

theorem row_form {w : World} {B : Nat} {e : TypeId} {v : Value} {n : Nat} {xs : List Value} (h : w.ownsRow B e 1 v n xs) : ∃ ao c, v = .slice ao n c := by
  rcases h.2 with ⟨hv, h0⟩ | ⟨g, cap, cur, hv, _⟩
  · exact ⟨none, 0, by rw [hv, h0]⟩
  · exact ⟨_, _, hv⟩
theorem app_keeps {w1 w2 : World} {b : Nat} {o : Obj} {v : Value} (hbk : w1.heap[b]? = some o) (hne : v.ownBlock ≠ some b) (hg : w1.grownBy w2 v.ownBlock) : w2.heap[b]? = some o := by
  rw [hg.block b (blk_lt hbk) (fun e => hne e.symm)]; exact hbk

set_option maxHeartbeats 1000000 in
set_option maxRecDepth 100000 in
theorem c135 (B b : Nat) (bs : List Value) (c : Int) (w : World) (h : Lib.IsBuilder 153 5 B b bs w) (hlen : bs.length + 1 ≤ 140737488355328) (hBw : B ≤ w.heap.size) :
    Calls Tryz.prog 135 #[.pointer (some ⟨b, 0, none⟩), .int .u8 c] w fun e w' => e = .returned .nilIface ∧ Lib.IsBuilder 153 5 B b (bs ++ [.int .u8 c]) w' ∧ Below B w w' := by
  obtain ⟨i0, hi, hz0, hz1, hz2⟩ := info_parts info5
  have HI : Hid (Lib.IsBuilder 153 5 B b bs w) := h
  clear h
  go_enter Tryz.func135, Tryz.ntmps135
  go_wp2_with fail
  refine (c137 B b bs w HI.out).mono ?_
  rintro e w1 ⟨rfl, h1, hb1, hs1⟩
  obtain ⟨hB, v, hbk, hown, hne⟩ := h1
  have hB1 : B ≤ w1.heap.size := by omega
  have HBK : Hid (w1.heap[b]? = some (.cells #[.pointer (some ⟨b, 0, none⟩), v] 153 (0, 0))) := hbk
  have HNE : Hid (v.ownBlock ≠ some b) := hne
  have c1 : w1.cell? ⟨b, 1, none⟩ = some v := by rw [Lib.cell_of_heap hbk]; rfl
  clear hbk hne hs1
  go_wp2_with (at_builtin; refine wpList_append_own _ rfl _ _ 119 rfl B 5 i0 (.int .u8 0) 1 1 Tryz.underlying119 hi hz0 hz1 hz2 rfl (by decide) _ _ _ rfl (hown.alloc _) ⟨w1.heap.size, 0, none⟩ 1 1 [.int .u8 c] rfl rfl (cell_one_new _ _ _) (by intro u hu; simp at hu; subst hu; rfl) (by unfold maxLen; omega) (by omega) (by simp; omega) ?_; intro v' w2 hown' hgrow _; have HB2 : Hid (w2.heap[b]? = some (.cells #[.pointer (some ⟨b, 0, none⟩), v] 153 (0, 0))) := app_keeps (v := v) (by rw [Below.heap_alloc w1 _ b (blk_lt HBK.out)]; exact HBK.out) HNE.out hgrow; have HG : Hid (Below B w w2) := (hb1.alloc hB1 _).grown hgrow (by simp; omega) (fun k hk => (hown.lt k hk).1); obtain ⟨ao, cp, rfl⟩ := row_form hown'; have d1 : w2.cell? ⟨b, 1, none⟩ = some v := (by rw [Lib.cell_of_heap HB2.out]; rfl); have f1 : w2.frozen? ⟨b, 1, none⟩ = false := Lib.frozen_of_heap HB2.out 1; clear hgrow)
  go_ret
  refine ⟨rfl, .inr ?_, ?_⟩
  · exact Lib.BuilderAt.put (T := 153) (e := 5) hB HB2.out (bs' := bs ++ [.int .u8 c]) (by simpa using hown') (by decide)
  · exact HG.out.setCell (p := ⟨b, 1, none⟩) hB _

/-- A builder stands behind whatever only makes new memory. -/
theorem ownsRow_below {w w' : World} {base : Nat} {e : TypeId} {size : Nat} {v : Value} {n : Nat} {xs : List Value} (h : w.ownsRow base e size v n xs) (hb : Below w.heap.size w w') : w'.ownsRow base e size v n xs := by
  obtain ⟨h1, h2⟩ := h
  refine ⟨h1, ?_⟩
  rcases h2 with h | ⟨g, cap, cur, hv, hg, hh, hr⟩
  · exact .inl h
  · exact .inr ⟨g, cap, cur, hv, hg, by rw [hb.block g (blk_lt hh)]; exact hh, hr⟩
theorem bld_later {w w' : World} {B b : Nat} {bs : List Value} (h : Lib.IsBuilder 153 5 B b bs w) (hb : Below w.heap.size w w') : Lib.IsBuilder 153 5 B b bs w' := by
  rcases h with ⟨hB, v, hbk, hown, hne⟩ | ⟨hB, v, hbk, hown, hne⟩
  · exact .inl ⟨hB, v, by rw [hb.block b (blk_lt hbk)]; exact hbk, ownsRow_below hown hb, hne⟩
  · exact .inr ⟨hB, v, by rw [hb.block b (blk_lt hbk)]; exact hbk, ownsRow_below hown hb, hne⟩
theorem bld_lt {w : World} {B b : Nat} {bs : List Value} (h : Lib.IsBuilder 153 5 B b bs w) : b < w.heap.size := by
  rcases h with ⟨hB, v, hbk, hown, hne⟩ | ⟨hB, v, hbk, hown, hne⟩
  · exact blk_lt hbk
  · exact blk_lt hbk
end Go.Proofs.YtdcgjdgpiogdaaaGreatDoor
namespace Go.Proofs.YtdcgjdgpiogdaaaGreatDoor
open Go.RowKit

def plainB (c : UInt8) : Bool := decide (32 ≤ (c.toNat : Int)) && decide ((c.toNat : Int) ≤ 126) && !((c.toNat : Int) == 34) && !((c.toNat : Int) == 92)
theorem ret_bool {a b : Bool} (h : a = b) : Ending.returned (.bool a) = .returned (.bool b) := by rw [h]
theorem ret_str {a b : ByteArray} (h : a = b) : Ending.returned (.string a) = .returned (.string b) := by rw [h]

set_option maxHeartbeats 400000 in
theorem c136 (c : UInt8) (w : World) :
    Calls Tryz.prog 136 #[.int .u8 c.toNat] w fun e w' => e = .returned (.bool (plainB c)) ∧ w' = w := by
  go_enter Tryz.func136, Tryz.ntmps136
  go_wp2
  all_goals go_ret
  all_goals refine ⟨ret_bool ?_, rfl⟩
  all_goals unfold plainB
  all_goals simp [*]
  all_goals first | omega | skip
  all_goals (try (simp only [bne]))

/-- The digits. -/
def hexL : List UInt8 := [48, 49, 50, 51, 52, 53, 54, 55, 56, 57, 97, 98, 99, 100, 101, 102]
def hexA : ByteArray := ⟨#[48, 49, 50, 51, 52, 53, 54, 55, 56, 57, 97, 98, 99, 100, 101, 102]⟩
theorem hex_get (n : Nat) (h : n < hexA.size) : hexA[n] = hexL.getD n 0 := by
  have h' : n < 16 := h
  obtain rfl | rfl | rfl | rfl | rfl | rfl | rfl | rfl | rfl | rfl | rfl | rfl | rfl | rfl | rfl | rfl : n = 0 ∨ n = 1 ∨ n = 2 ∨ n = 3 ∨ n = 4 ∨ n = 5 ∨ n = 6 ∨ n = 7 ∨ n = 8 ∨ n = 9 ∨ n = 10 ∨ n = 11 ∨ n = 12 ∨ n = 13 ∨ n = 14 ∨ n = 15 := by omega
  all_goals rfl
/-- What a byte is between quotes. -/
def qb (c : UInt8) : List UInt8 := if plainB c = true then [c] else [92, hexL.getD (c.toNat / 16) 0, hexL.getD (c.toNat % 16) 0]
def quoteL (l : List UInt8) : List UInt8 := 34 :: (l.flatMap qb ++ [34])
theorem qb_len (c : UInt8) : (qb c).length ≤ 3 := by unfold qb; split <;> simp
theorem flat_len (l : List UInt8) : (l.flatMap qb).length ≤ 3 * l.length := by
  induction l with
  | nil => simp
  | cons c l ih => have := qb_len c; simp only [List.flatMap_cons, List.length_append, List.length_cons]; omega
theorem quote_len (l : List UInt8) : (quoteL l).length ≤ 3 * l.length + 2 := by
  have := flat_len l; unfold quoteL; simp only [List.length_cons, List.length_append, List.length_nil]; omega
theorem and15 (c : UInt8) : bits BinOp.and IntKind.u8 (c.toNat : Int) 15 = (c.toNat : Int) % 16 := by
  have hc : c.toNat < 256 := c.toNat_lt
  have h := u8_and_nat c.toNat 15 hc (by omega)
  have e : c.toNat &&& 15 = c.toNat % 16 := Nat.and_two_pow_sub_one_eq_mod c.toNat 4
  rw [e] at h
  simpa using h
theorem take_snoc (s : ByteArray) (k : Nat) (h : k < s.size) : s.data.toList.take (k + 1) = s.data.toList.take k ++ [s[k]] := by
  rw [List.take_succ_eq_append_getElem (by simpa using h)]; rfl
theorem cells_snoc (l r : List UInt8) : Lib.byteCells (l ++ r) = Lib.byteCells l ++ Lib.byteCells r := by simp [Lib.byteCells]
theorem cells_len (l : List UInt8) : (Lib.byteCells l).length = l.length := by simp [Lib.byteCells]

end Go.Proofs.YtdcgjdgpiogdaaaGreatDoor
