import Derived.Test.YtejlfpolnddfdaaDoorP1
namespace Go.Proofs.YtejlfpolnddfdaaDoor
open Go.RowKit
/-- A block's first cells. -/
def BlkAt (u : World) (B : Nat) (vs : List Value) : Prop := ∀ j v, vs[j]? = some v → u.cell? ⟨B, j, none⟩ = some v
def OpnAt (u : World) (B : Nat) : Prop := ∀ j, u.frozen? ⟨B, j, none⟩ = false
theorem blk_new (w : World) (vs : List Value) (t : TypeId) : BlkAt (w.alloc (.cells vs.toArray t)) w.heap.size vs := fun j v h => by
  simp [go_sem, h]
theorem opn_new (w : World) (a : Array Value) (t : TypeId) : OpnAt (w.alloc (.cells a t)) w.heap.size := fun j => by simp [go_sem]
theorem BlkAt.below {u u' : World} {B N : Nat} {vs : List Value} (h : BlkAt u B vs) (hb : Below N u u') (hN : B < N) : BlkAt u' B vs := fun j v e => (hb.cell (p := ⟨B, j, none⟩) hN).trans (h j v e)
theorem OpnAt.below {u u' : World} {B N : Nat} (h : OpnAt u B) (hb : Below N u u') (hN : B < N) : OpnAt u' B := fun j => (hb.frozen (p := ⟨B, j, none⟩) hN).trans (h j)
theorem BlkAt.set {u : World} {B : Nat} {vs : List Value} (h : BlkAt u B vs) (j : Nat) (v : Value) (hj : j < vs.length) : BlkAt (u.setCell ⟨B, j, none⟩ v) B (vs.set j v) := fun i x e => by
  rcases Nat.decEq i j with hne | rfl
  · rw [World.cell?_setCell_other _ _ _ _ (adr_ne (fun e => hne e.symm))]
    rw [List.getElem?_set_ne (fun h => hne h.symm)] at e
    exact h i x e
  · rw [List.getElem?_set_self hj] at e
    obtain rfl := Option.some.inj e
    exact World.cell?_setCell_same _ _ _ (h i _ (List.getElem?_eq_getElem hj))
theorem BlkAt.other {u : World} {B : Nat} {vs : List Value} (h : BlkAt u B vs) (p : Addr) (v : Value) (hp : p.block ≠ B) : BlkAt (u.setCell p v) B vs := fun i x e => by
  rw [World.cell?_setCell_other _ _ _ _ (fun h => hp (by rw [h]))]
  exact h i x e
theorem OpnAt.set {u : World} {B : Nat} (h : OpnAt u B) (p : Addr) (v : Value) : OpnAt (u.setCell p v) B := fun j => by simpa using h j
/-- Stores one behind the other. -/
def fill (u : World) (B : Nat) : Nat → List Value → World
  | _, [] => u
  | j, v :: vs => fill (u.setCell ⟨B, j, none⟩ v) B (j + 1) vs
theorem BlkAt.fill {B : Nat} (vs : List Value) : ∀ {u : World} (pre old post : List Value) (j : Nat), BlkAt u B (pre ++ old ++ post) → old.length = vs.length → j = pre.length → BlkAt (fill u B j vs) B (pre ++ vs ++ post) := by
  induction vs with
  | nil => intro u pre old post j h hl _; obtain rfl : old = [] := List.length_eq_zero_iff.1 hl; exact h
  | cons v vs ih =>
    intro u pre old post j h hl hj
    match old, hl with
    | o :: old, hl =>
      subst hj
      have h1 := h.set pre.length v (by simp)
      have e : (pre ++ (o :: old) ++ post).set pre.length v = (pre ++ [v]) ++ old ++ post := by simp
      rw [e] at h1
      have := ih (pre ++ [v]) old post (pre.length + 1) h1 (by simpa using hl) (by simp)
      have e2 : pre ++ [v] ++ vs ++ post = pre ++ (v :: vs) ++ post := by simp
      rw [e2] at this
      exact this
theorem BlkAt.fillO {B B' : Nat} (hne : B ≠ B') (vs : List Value) : ∀ {u : World} {xs : List Value} (j : Nat), BlkAt u B' xs → BlkAt (Go.Proofs.YtejlfpolnddfdaaDoor.fill u B j vs) B' xs := by
  induction vs with
  | nil => intro u xs j h; exact h
  | cons v vs ih => intro u xs j h; exact ih (j + 1) (h.other ⟨B, j, none⟩ v hne)
theorem OpnAt.fill {B B' : Nat} (vs : List Value) : ∀ {u : World} (j : Nat), OpnAt u B' → OpnAt (Go.Proofs.YtejlfpolnddfdaaDoor.fill u B j vs) B' := by
  induction vs with
  | nil => intro u j h; exact h
  | cons v vs ih => intro u j h; exact ih (j + 1) (h.set ⟨B, j, none⟩ v)
theorem below_fill {B N : Nat} {w : World} (hN : N ≤ B) (vs : List Value) : ∀ {u : World} (j : Nat), Below N w u → Below N w (fill u B j vs) := by
  induction vs with
  | nil => intro u j h; exact h
  | cons v vs ih => intro u j h; exact ih (j + 1) (h.setCell (p := ⟨B, j, none⟩) hN v)
theorem size_fill {B : Nat} (vs : List Value) : ∀ {u : World} (j : Nat), (fill u B j vs).heap.size = u.heap.size := by
  induction vs with
  | nil => intro u j; rfl
  | cons v vs ih => intro u j; exact (ih (j + 1)).trans (by simp)
end Go.Proofs.YtejlfpolnddfdaaDoor
