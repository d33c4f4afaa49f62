import Derived.Test.YtejlfpolnddfdaaDoorRows
import Derived.WalkKit
import Derived.WalkSpells
import Derived.WalkLawsBesides
import Derived.Laws.BytesArg
import Derived.Deep.RegionWith
import Derived.Deep.QuietTactic
import Derived.BigQuiet
namespace Go.Proofs.YtejlfpolnddfdaaDoor
open Go.RowKit

/-- A make: Name, Tool, Arg. -/
structure M3 where
  nm : ByteArray
  tl : ByteArray
  ar : ByteArray
def m3z : M3 := ⟨⟨#[]⟩, ⟨#[]⟩, ⟨#[]⟩⟩
def M3.v (x : M3) : Value := .agg #[.string x.nm, .string x.tl, .string x.ar]
/-- No string of it is longer. -/
def M3.le (x : M3) (B : Nat) : Prop := x.nm.size ≤ B ∧ x.tl.size ≤ B ∧ x.ar.size ≤ B
/-- A slice's cells hold these makes. -/
def MksAt (w : World) (a : Option Addr) (is : List M3) : Prop :=
  is = [] ∨ ∃ b off, a = some ⟨b, off, none⟩ ∧ b < w.heap.size ∧ ∀ i, i < is.length → w.cell? ⟨b, off + i * 3, none⟩ = some (.string (is.getD i m3z).nm) ∧ w.cell? ⟨b, off + i * 3 + 1, none⟩ = some (.string (is.getD i m3z).tl) ∧ w.cell? ⟨b, off + i * 3 + 2, none⟩ = some (.string (is.getD i m3z).ar)

theorem mks_some {w : World} {a : Option Addr} {is : List M3} (h : MksAt w a is) : ∃ b off, (is = [] ∨ (a = some ⟨b, off, none⟩ ∧ b < w.heap.size ∧ ∀ i, i < is.length → w.cell? ⟨b, off + i * 3, none⟩ = some (.string (is.getD i m3z).nm) ∧ w.cell? ⟨b, off + i * 3 + 1, none⟩ = some (.string (is.getD i m3z).tl) ∧ w.cell? ⟨b, off + i * 3 + 2, none⟩ = some (.string (is.getD i m3z).ar))) := by
  rcases h with h | ⟨b, off, h⟩
  · exact ⟨0, 0, .inl h⟩
  · exact ⟨b, off, .inr h⟩
theorem mks_below {w w' : World} {a : Option Addr} {is : List M3} (h : MksAt w a is) (hb : Below w.heap.size w w') : MksAt w' a is := by
  rcases h with h | ⟨b, off, h1, h2, h3⟩
  · exact .inl h
  · exact .inr ⟨b, off, h1, Nat.lt_of_lt_of_le h2 hb.size, fun i hi => by rw [hb.cell (by exact h2), hb.cell (by exact h2), hb.cell (by exact h2)]; exact h3 i hi⟩
theorem mks_setCell {w : World} {g : Nat} {is : List M3} {q : Addr} {v : Value} (h : MksAt w (some ⟨g, 0, none⟩) is) (hq : q.block ≠ g) : MksAt (w.setCell q v) (some ⟨g, 0, none⟩) is := by
  rcases h with h | ⟨b, off, h1, h2, h3⟩
  · exact .inl h
  · have hg : b = g := by injection h1 with h1; injection h1 with h1 _; exact h1.symm
    have hne : ∀ j, q ≠ ⟨b, j, none⟩ := fun j e => hq (by rw [e]; exact hg)
    refine .inr ⟨b, off, h1, by simpa using h2, fun i hi => ?_⟩
    rw [World.cell?_setCell_other _ _ _ _ (hne _), World.cell?_setCell_other _ _ _ _ (hne _), World.cell?_setCell_other _ _ _ _ (hne _)]
    exact h3 i hi
theorem getD_smallM {is : List M3} {B : Nat} (h : ∀ i, i < is.length → (is.getD i m3z).le B) (i : Nat) : (is.getD i m3z).le B := by
  rcases Nat.lt_or_ge i is.length with h' | h'
  · exact h i h'
  · have e : is.getD i m3z = m3z := by simp [List.getD, List.getElem?_eq_none h']
    rw [e]; exact ⟨Nat.zero_le _, Nat.zero_le _, Nat.zero_le _⟩

theorem adr_ne {B i j : Nat} (h : i ≠ j) : (⟨B, i, none⟩ : Addr) ≠ ⟨B, j, none⟩ := by intro e; injection e with _ e; exact h e
theorem set3_other (u : World) (B j m : Nat) (v0 v1 v2 : Value) (h0 : m ≠ j) (h1 : m ≠ j + 1) (h2 : m ≠ j + 2) : (((u.setCell ⟨B, j, none⟩ v0).setCell ⟨B, j + 1, none⟩ v1).setCell ⟨B, j + 2, none⟩ v2).cell? ⟨B, m, none⟩ = u.cell? ⟨B, m, none⟩ := by
  rw [World.cell?_setCell_other _ _ _ _ (adr_ne (Ne.symm h2)), World.cell?_setCell_other _ _ _ _ (adr_ne (Ne.symm h1)), World.cell?_setCell_other _ _ _ _ (adr_ne (Ne.symm h0))]
theorem set3_at (u : World) (B j : Nat) (v0 v1 v2 x0 x1 x2 : Value) (h0 : u.cell? ⟨B, j, none⟩ = some x0) (h1 : u.cell? ⟨B, j + 1, none⟩ = some x1) (h2 : u.cell? ⟨B, j + 2, none⟩ = some x2) :
    (((u.setCell ⟨B, j, none⟩ v0).setCell ⟨B, j + 1, none⟩ v1).setCell ⟨B, j + 2, none⟩ v2).cell? ⟨B, j, none⟩ = some v0 ∧ (((u.setCell ⟨B, j, none⟩ v0).setCell ⟨B, j + 1, none⟩ v1).setCell ⟨B, j + 2, none⟩ v2).cell? ⟨B, j + 1, none⟩ = some v1 ∧ (((u.setCell ⟨B, j, none⟩ v0).setCell ⟨B, j + 1, none⟩ v1).setCell ⟨B, j + 2, none⟩ v2).cell? ⟨B, j + 2, none⟩ = some v2 := by
  have a1 : (u.setCell ⟨B, j, none⟩ v0).cell? ⟨B, j + 1, none⟩ = some x1 := by rw [World.cell?_setCell_other _ _ _ _ (adr_ne (by omega))]; exact h1
  have a2 : ((u.setCell ⟨B, j, none⟩ v0).setCell ⟨B, j + 1, none⟩ v1).cell? ⟨B, j + 2, none⟩ = some x2 := by
    rw [World.cell?_setCell_other _ _ _ _ (adr_ne (by omega)), World.cell?_setCell_other _ _ _ _ (adr_ne (by omega))]; exact h2
  refine ⟨?_, ?_, World.cell?_setCell_same _ _ _ a2⟩
  · rw [World.cell?_setCell_other _ _ _ _ (adr_ne (by omega)), World.cell?_setCell_other _ _ _ _ (adr_ne (by omega))]; exact World.cell?_setCell_same _ _ _ h0
  · rw [World.cell?_setCell_other _ _ _ _ (adr_ne (by omega))]; exact World.cell?_setCell_same _ _ _ a1
theorem info25 : (Tryd.prog.info? 25).map (fun i => (i.zero, i.size, i.bytes)) = some (some (.agg #[.string ⟨#[]⟩, .string ⟨#[]⟩, .string ⟨#[]⟩]), 3, 48) := by kernel_rfl
theorem made3 (n j : Nat) (h : j < n * 3) : (madeCells #[Value.string ⟨#[]⟩, .string ⟨#[]⟩, .string ⟨#[]⟩] (n * 3))[j]? = (#[Value.string ⟨#[]⟩, .string ⟨#[]⟩, .string ⟨#[]⟩] : Array Value)[j % 3]? := by
  have h3 : j % 3 < 3 := Nat.mod_lt _ (by omega)
  rw [Array.getElem?_eq_getElem (by simpa [size_madeCells] using h), Array.getElem?_eq_getElem (by simpa using h3)]
  simp [madeCells, h3]

set_option maxHeartbeats 400000 in
theorem c19 (x : M3) (w : World) :
    Calls Tryd.prog 19 #[.agg #[.string x.nm, .string x.tl, .string x.ar], .agg #[.string x.nm, .string x.tl, .string x.ar]] w fun e w' => e = .returned (.bool true) ∧ Below w.heap.size w w' := by
  go_enter Tryd.func19, Tryd.ntmps19
  go_wp2
  go_ret
  exact ⟨rfl, ((Below.refl _ _).alloc (Nat.le_refl _) _).alloc (by simp) _⟩
end Go.Proofs.YtejlfpolnddfdaaDoor
