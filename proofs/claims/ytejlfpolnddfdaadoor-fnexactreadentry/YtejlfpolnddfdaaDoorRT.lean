import Derived.Test.YtejlfpolnddfdaaDoorR7
import Derived.Deep.RegionHeld3
namespace Go.Proofs.YtejlfpolnddfdaaDoor
open Go.RowKit
theorem blk_some {u : World} {B : Nat} {vs : List Value} (h : BlkAt u B vs) (ws : List Value) (hl : ws.length = vs.length) : ∀ i, i < ws.length → (u.cell? ⟨B, 0 + i, none⟩).isSome = true := fun i hi => by
  rw [Nat.zero_add, h i _ (List.getElem?_eq_getElem (by omega))]; rfl
theorem BlkAt.drewW {u : World} {B : Nat} {vs : List Value} (h : BlkAt u B vs) : BlkAt u.drew B vs := fun j v e => by simpa using h j v e
/-- A whole block is stored, as one step of a region that draws its order. -/
theorem step_store_blk {P : Program} {ops : Array Oper} {o : Oper} {a : Act} {w : World} {K : Act → World → Prop} {Q : Exit → Act → World → Prop} {E : Prop} (hg : o.guard = none) (ty : TypeId) (x y : Operand) (ho : o.op = .store ty x y)
    (B j : Nat) (hx : a.eval x = .pointer (some ⟨B, j, none⟩)) (vs : List Value) (hy : a.eval y = .agg vs.toArray) (hc : ∀ i, i < vs.length → (w.cell? ⟨B, j + i, none⟩).isSome = true) (hf : OpnAt w B) (h1 : ∀ v ∈ vs, v.oneCell' = true)
    (hi : (P.info? ty).map (·.size) = some vs.length) (hdst : o.dst = none) (h : K a (fill w B j vs)) :
    if Region.wanted o (yielded ops a.tmps) = true then Oper.wp P o a w K Q else E := by
  have hw : Region.wanted o (yielded ops a.tmps) = true := by simp [Region.wanted, hg]
  rw [if_pos hw]
  unfold Oper.wp execOp
  simp only [ho, hx, hy, Instr.storeAt, Instr.sureAddr, Sem.run_bind, Sem.run_pure, Result.andThen_ok, run_storeVar_blk w B j ty vs hc hf h1 hi]
  first
    | exact h
    | (simp only [Oper.upon]; exact h)
    | (simp only [Oper.upon, hdst]; exact h)
theorem OpnAt.drewW {u : World} {B : Nat} (h : OpnAt u B) : OpnAt u.drew B := fun j => by simpa using h j
theorem cell_fill {B : Nat} (vs : List Value) : ∀ {u : World} (j : Nat) (p : Addr), p.block ≠ B → (fill u B j vs).cell? p = u.cell? p := by
  induction vs with
  | nil => intro u j p _; rfl
  | cons v vs ih => intro u j p h; exact (ih (j + 1) p h).trans (World.cell?_setCell_other _ _ _ _ (fun e => h (by rw [← e])))
theorem cut_each {f : List UInt8} {p : List UInt8} (h : p ∈ cutS 32 f) : p.length ≤ f.length := by
  obtain ⟨i, hi, e⟩ := List.getElem_of_mem h
  have := cut_small 32 f i
  rw [List.getD, List.getElem?_eq_getElem hi, e] at this
  exact this
theorem six_of {l : List (List UInt8)} (h : l.length = 6) : ∃ p0 p1 p2 p3 p4 p5, l = [p0, p1, p2, p3, p4, p5] := by
  match l, h with
  | [a, b, c, d, e, f], _ => exact ⟨a, b, c, d, e, f, rfl⟩
end Go.Proofs.YtejlfpolnddfdaaDoor
