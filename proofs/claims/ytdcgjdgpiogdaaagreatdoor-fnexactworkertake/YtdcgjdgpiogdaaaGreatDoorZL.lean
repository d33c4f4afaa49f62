import Derived.Test.YtdcgjdgpiogdaaaGreatDoorZG
import Derived.Test.YtdcgjdgpiogdaaaGreatDoorZI
import Derived.Test.YtdcgjdgpiogdaaaGreatDoorZJ
import Derived.Test.YtdcgjdgpiogdaaaGreatDoorX4
namespace Go.Proofs.YtdcgjdgpiogdaaaGreatDoor
open Go.RowKit
theorem BlkAt.drewW {u : World} {B : Nat} {vs : List Value} (h : BlkAt u B vs) : BlkAt u.drew B vs := fun j v e => by simpa using h j v e
/-- A whole block is stored, as one step of a region that draws its order. -/
theorem step_store_blk {P : Program} {ops : Array Oper} {o : Oper} {a : Act} {w : World} {K : Act → World → Prop} {Q : Exit → Act → World → Prop} {E : Prop} (hg : o.guard = none) (ty : TypeId) (x y : Operand) (ho : o.op = .store ty x y)
    (B j : Nat) (hx : a.eval x = .pointer (some ⟨B, j, none⟩)) (vs : List Value) (hy : a.eval y = .agg vs.toArray) (hc : ∀ i, i < vs.length → (w.cell? ⟨B, j + i, none⟩).isSome = true) (hf : OpnAt w B) (h1 : ∀ v ∈ vs, v.oneCell' = true)
    (hi : (P.info? ty).map (·.size) = some vs.length) (hdst : o.dst = none) (h : K a (fill w B j vs)) :
    if Region.wanted o (yielded ops a.tmps) = true then Oper.wp P o a w K Q else E := by
  have hw : Region.wanted o (yielded ops a.tmps) = true := by simp [Region.wanted, hg]
  rw [if_pos hw]
  unfold Oper.wp execOp
  simp only [ho, hx, hy, Instr.storeAt, Instr.sureAddr, Sem.run_bind, Sem.run_pure, Result.andThen_ok, run_storeVar_blk w B j ty vs hc hf h1 hi]
  first
    | exact h
    | (simp only [Oper.upon]; exact h)
    | (simp only [Oper.upon, hdst]; exact h)
theorem load_exec {P : Program} {w : World} {ty : TypeId} {ad : Addr} {v : Value} (h : (loadVar ty ad).run P w = .ok v w) : ((Sem.run P (Instr.loadAt ty (.pointer (some ad))) w).andThen fun a w' => Result.ok (Next.value a) w') = .ok (.value v) w := by
  simp only [Instr.loadAt, Instr.sureAddr, Sem.run_bind, Sem.run_pure, Result.andThen_ok, h]

/-- A whole block is loaded by a step that stands behind a guard. -/
theorem wpList_load_blkW {P : Program} {ops : Array Oper} {rest : List Oper} {o : Oper} {a : Act} {w : World} {Q : Exit → Act → World → Prop} (hw : Region.wanted o (yielded ops a.tmps) = true) (ty : TypeId) (x : Operand) (ho : o.op = .load ty x)
    (B : Nat) (hx : a.eval x = .pointer (some ⟨B, 0, none⟩)) (cs : List Value) (d : TypeDesc) (hc : BlkAt w B cs)
    (hu : P.underlying ty = some d) (hd : (match d with | .struct _ | .array _ _ => true | _ => false) = true) (hi : (P.info? ty).map (·.size) = some cs.length)
    (h : wpList P ops Q rest (a.put o.dst (.agg cs.toArray)) w) : wpList P ops Q (o :: rest) a w := by
  refine wpList_step fun K hK => ?_
  rw [if_pos hw]
  unfold Oper.wp execOp
  simp only [ho, hx, Instr.loadAt, Instr.sureAddr, Sem.run_bind, Sem.run_pure, Result.andThen_ok, run_loadVar_blk w B ty cs d hc hu hd hi]
  exact hK _ _ h
theorem BlkAt.but {u u' : World} {B g : Nat} {vs : List Value} (h : BlkAt u B vs) (hb : But g u u') (hB : B < u.heap.size) (hne : B ≠ g) : BlkAt u' B vs := fun j v e => (hb.cell (p := ⟨B, j, none⟩) hB hne).trans (h j v e)
/-- Looks in a block between two bounds. -/
def LkB (u : World) (lo hi : Nat) (ao : Option Addr) (is : List L4) : Prop := is = [] ∨ ∃ g, ao = some ⟨g, 0, none⟩ ∧ lo ≤ g ∧ g < hi ∧ Open4 u g is.length ∧ LksAt u ao is
theorem lkb_of {u : World} {B : Nat} {ao : Option Addr} {is : List L4} (h : LkOwn u B ao is) : LkB u B u.heap.size ao is := by
  rcases h.own with h1 | ⟨g, h1, h2, h3⟩
  · exact .inl h1
  · exact .inr ⟨g, h1, h2, h3.1, h3, h.at'⟩
theorem lkb_lks {u : World} {lo hi : Nat} {ao : Option Addr} {is : List L4} (h : LkB u lo hi ao is) : LksAt u ao is := by
  rcases h with h | ⟨g, _, _, _, _, h⟩
  · exact .inl h
  · exact h
theorem lkb_below {u u' : World} {lo hi : Nat} {ao : Option Addr} {is : List L4} (h : LkB u lo hi ao is) (hb : Below u.heap.size u u') : LkB u' lo hi ao is :=
  h.imp id fun ⟨g, h1, h2, h3, h4, h5⟩ => ⟨g, h1, h2, h3, h4.below hb, lks_below h5 hb⟩
theorem lks_but {u u' : World} {g b : Nat} {is : List L4} (h : LksAt u (some ⟨b, 0, none⟩) is) (hb : But g u u') (hne : b ≠ g) : LksAt u' (some ⟨b, 0, none⟩) is := by
  rcases h with h | ⟨b', off, h1, h2, h3⟩
  · exact .inl h
  · injection h1 with h1; injection h1 with h1 h4; subst h1; subst h4
    refine .inr ⟨b, 0, rfl, Nat.lt_of_lt_of_le h2 hb.size, fun i hi => ?_⟩
    rw [hb.cell (by exact h2) hne, hb.cell (by exact h2) hne, hb.cell (by exact h2) hne, hb.cell (by exact h2) hne]
    exact h3 i hi
theorem lkg_but {u u' : World} {b g : Nat} {is : List L4} (h : LkG u (some ⟨b, 0, none⟩) is) (hb : But g u u') (hne : b ≠ g) : LkG u' (some ⟨b, 0, none⟩) is := by
  obtain ⟨h1, b', e, h2⟩ := h
  injection e with e; injection e with e _; subst e
  exact ⟨lks_but h1 hb hne, b, rfl, open4_but h2 hb hne⟩
theorem lkg_open {u : World} {b : Nat} {is : List L4} (h : LkG u (some ⟨b, 0, none⟩) is) : Open4 u b is.length := by
  obtain ⟨_, b', e, h2⟩ := h
  injection e with e; injection e with e _; rw [e]; exact h2
theorem marks_but {K : Int} {u u' : World} {b g k : Nat} (h : MarksAt K u b k) (hlt : b < u.heap.size) (hb : But g u u') (hne : b ≠ g) : MarksAt K u' b k := by
  intro j hj
  rw [hb.cell (by exact hlt) hne, hb.cell (by exact hlt) hne, hb.cell (by exact hlt) hne, hb.cell (by exact hlt) hne]
  exact h j hj
theorem lkb_but {u u' : World} {lo hi g : Nat} {ao : Option Addr} {is : List L4} (h : LkB u lo hi ao is) (hb : But g u u') (hg : g < lo ∨ hi ≤ g) : LkB u' lo hi ao is := by
  rcases h with h | ⟨b, rfl, h2, h3, h4, h5⟩
  · exact .inl h
  · exact .inr ⟨b, rfl, h2, h3, open4_but h4 hb (by omega), lks_but h5 hb (by omega)⟩
end Go.Proofs.YtdcgjdgpiogdaaaGreatDoor
