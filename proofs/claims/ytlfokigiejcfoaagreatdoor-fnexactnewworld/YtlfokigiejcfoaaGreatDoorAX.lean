import Derived.Test.YtlfokigiejcfoaaGreatDoorA4
import Derived.Laws.Rows
import Derived.Laws.IdiomCopy
namespace Go.Proofs.YtlfokigiejcfoaaGreatDoor.M
open Go.RowKit
/-- A block's first cells. -/
def BlkAt (u : World) (B : Nat) (vs : List Value) : Prop := ∀ j v, vs[j]? = some v → u.cell? ⟨B, j, none⟩ = some v
def OpnAt (u : World) (B : Nat) : Prop := ∀ j, u.frozen? ⟨B, j, none⟩ = false
theorem blk_new (w : World) (vs : List Value) (t : TypeId) : BlkAt (w.alloc (.cells vs.toArray t)) w.heap.size vs := fun j v h => by
  simp [go_sem, h]
theorem opn_new (w : World) (a : Array Value) (t : TypeId) : OpnAt (w.alloc (.cells a t)) w.heap.size := fun j => by simp [go_sem]
theorem BlkAt.below {u u' : World} {B N : Nat} {vs : List Value} (h : BlkAt u B vs) (hb : Below N u u') (hN : B < N) : BlkAt u' B vs := fun j v e => (hb.cell (p := ⟨B, j, none⟩) hN).trans (h j v e)
theorem OpnAt.below {u u' : World} {B N : Nat} (h : OpnAt u B) (hb : Below N u u') (hN : B < N) : OpnAt u' B := fun j => (hb.frozen (p := ⟨B, j, none⟩) hN).trans (h j)
theorem BlkAt.set {u : World} {B : Nat} {vs : List Value} (h : BlkAt u B vs) (j : Nat) (v : Value) (hj : j < vs.length) : BlkAt (u.setCell ⟨B, j, none⟩ v) B (vs.set j v) := fun i x e => by
  rcases Nat.decEq i j with hne | rfl
  · rw [World.cell?_setCell_other _ _ _ _ (adr_ne (fun e => hne e.symm))]
    rw [List.getElem?_set_ne (fun h => hne h.symm)] at e
    exact h i x e
  · rw [List.getElem?_set_self hj] at e
    obtain rfl := Option.some.inj e
    exact World.cell?_setCell_same _ _ _ (h i _ (List.getElem?_eq_getElem hj))
theorem BlkAt.other {u : World} {B : Nat} {vs : List Value} (h : BlkAt u B vs) (p : Addr) (v : Value) (hp : p.block ≠ B) : BlkAt (u.setCell p v) B vs := fun i x e => by
  rw [World.cell?_setCell_other _ _ _ _ (fun h => hp (by rw [h]))]
  exact h i x e
theorem OpnAt.set {u : World} {B : Nat} (h : OpnAt u B) (p : Addr) (v : Value) : OpnAt (u.setCell p v) B := fun j => by simpa using h j
/-- Stores one behind the other. -/
def fill (u : World) (B : Nat) : Nat → List Value → World
  | _, [] => u
  | j, v :: vs => fill (u.setCell ⟨B, j, none⟩ v) B (j + 1) vs
theorem BlkAt.fill {B : Nat} (vs : List Value) : ∀ {u : World} (pre old post : List Value) (j : Nat), BlkAt u B (pre ++ old ++ post) → old.length = vs.length → j = pre.length → BlkAt (fill u B j vs) B (pre ++ vs ++ post) := by
  induction vs with
  | nil => intro u pre old post j h hl _; obtain rfl : old = [] := List.length_eq_zero_iff.1 hl; exact h
  | cons v vs ih =>
    intro u pre old post j h hl hj
    match old, hl with
    | o :: old, hl =>
      subst hj
      have h1 := h.set pre.length v (by simp)
      have e : (pre ++ (o :: old) ++ post).set pre.length v = (pre ++ [v]) ++ old ++ post := by simp
      rw [e] at h1
      have := ih (pre ++ [v]) old post (pre.length + 1) h1 (by simpa using hl) (by simp)
      have e2 : pre ++ [v] ++ vs ++ post = pre ++ (v :: vs) ++ post := by simp
      rw [e2] at this
      exact this
theorem BlkAt.fillO {B B' : Nat} (hne : B ≠ B') (vs : List Value) : ∀ {u : World} {xs : List Value} (j : Nat), BlkAt u B' xs → BlkAt (Go.Proofs.YtlfokigiejcfoaaGreatDoor.M.fill u B j vs) B' xs := by
  induction vs with
  | nil => intro u xs j h; exact h
  | cons v vs ih => intro u xs j h; exact ih (j + 1) (h.other ⟨B, j, none⟩ v hne)
theorem OpnAt.fill {B B' : Nat} (vs : List Value) : ∀ {u : World} (j : Nat), OpnAt u B' → OpnAt (Go.Proofs.YtlfokigiejcfoaaGreatDoor.M.fill u B j vs) B' := by
  induction vs with
  | nil => intro u j h; exact h
  | cons v vs ih => intro u j h; exact ih (j + 1) (h.set ⟨B, j, none⟩ v)
theorem below_fill {B N : Nat} {w : World} (hN : N ≤ B) (vs : List Value) : ∀ {u : World} (j : Nat), Below N w u → Below N w (fill u B j vs) := by
  induction vs with
  | nil => intro u j h; exact h
  | cons v vs ih => intro u j h; exact ih (j + 1) (h.setCell (p := ⟨B, j, none⟩) hN v)
theorem size_fill {B : Nat} (vs : List Value) : ∀ {u : World} (j : Nat), (fill u B j vs).heap.size = u.heap.size := by
  induction vs with
  | nil => intro u j; rfl
  | cons v vs ih => intro u j; exact (ih (j + 1)).trans (by simp)
theorem fill_eq (B : Nat) (vs : List Value) : ∀ (u : World) (j : Nat), fill u B j vs = u.setCells B j vs := by
  induction vs with
  | nil => intro u j; rfl
  | cons v vs ih => intro u j; exact ih _ _
theorem adr_add (B o j : Nat) : (⟨B, o, none⟩ : Addr).add j = ⟨B, o + j, none⟩ := by unfold Addr.add; split <;> simp_all
section
variable {P : Program}
theorem run_loadVar_blk (w : World) (B : Nat) (ty : TypeId) (cs : List Value) (d : TypeDesc) (hc : BlkAt w B cs)
    (hu : P.underlying ty = some d) (hd : (match d with | .struct _ | .array _ _ => true | _ => false) = true) (hi : (P.info? ty).map (·.size) = some cs.length) :
    (loadVar ty ⟨B, 0, none⟩).run P w = .ok (.agg cs.toArray) w := by
  have hl : (loadCells ⟨B, 0, none⟩ cs.length).run P w = .ok cs.toArray w :=
    run_loadCells_list (P := P) w ⟨B, 0, none⟩ cs (fun j v hv => by rw [adr_add, Nat.zero_add]; exact hc j v hv)
  cases hq : P.info? ty with
  | none => simp [hq] at hi
  | some i =>
    have hs : i.size = cs.length := by simpa [hq] using hi
    have hagg : (isAgg ty).run P w = .ok true w := by
      unfold isAgg
      rw [Sem.run_bind, run_underlying hu w]
      cases d <;> simp_all
    simp [loadVar, Sem.run_bind, hagg, sizeOf, typeInfo, hq, hs, hl]
theorem wpList_load_blk {ops : Array Oper} {rest : List Oper} {o : Oper} {a : Act} {w : World} {Q : Exit → Act → World → Prop} (hgd : o.guard = none) (ty : TypeId) (x : Operand) (ho : o.op = .load ty x)
    (B : Nat) (hx : a.eval x = .pointer (some ⟨B, 0, none⟩)) (cs : List Value) (d : TypeDesc) (hc : BlkAt w B cs)
    (hu : P.underlying ty = some d) (hd : (match d with | .struct _ | .array _ _ => true | _ => false) = true) (hi : (P.info? ty).map (·.size) = some cs.length)
    (h : wpList P ops Q rest (a.put o.dst (.agg cs.toArray)) w) : wpList P ops Q (o :: rest) a w := by
  refine wpList_plain hgd fun K hK => ?_
  unfold Oper.wp execOp
  simp only [ho, hx, Instr.loadAt, Instr.sureAddr, Sem.run_bind, Sem.run_pure, Result.andThen_ok, run_loadVar_blk w B ty cs d hc hu hd hi]
  exact hK _ _ h
theorem run_storeVar_blk (w : World) (B j : Nat) (ty : TypeId) (vs : List Value) (hc : ∀ i, i < vs.length → (w.cell? ⟨B, j + i, none⟩).isSome = true) (hf : OpnAt w B) (h1 : ∀ v ∈ vs, v.oneCell' = true)
    (hi : (P.info? ty).map (·.size) = some vs.length) :
    (storeVar ty ⟨B, j, none⟩ (.agg vs.toArray)).run P w = .ok () (fill w B j vs) := by
  have hs := run_storeCells_cells (P := P) B j vs 0 w (fun i h => by simpa using hc i h) (fun i _ => hf _) h1
  rw [Nat.add_zero, ← fill_eq] at hs
  cases hq : P.info? ty with
  | none => simp [hq] at hi
  | some i =>
    have hz : i.size = vs.length := by simpa [hq] using hi
    simp [storeVar, Value.cells, Sem.run_bind, sizeOf, typeInfo, hq, hz, hs]
theorem wpList_store_blk {ops : Array Oper} {rest : List Oper} {o : Oper} {a : Act} {w : World} {Q : Exit → Act → World → Prop} (hgd : o.guard = none) (ty : TypeId) (x y : Operand) (ho : o.op = .store ty x y)
    (B j : Nat) (hx : a.eval x = .pointer (some ⟨B, j, none⟩)) (vs : List Value) (hy : a.eval y = .agg vs.toArray) (hc : ∀ i, i < vs.length → (w.cell? ⟨B, j + i, none⟩).isSome = true) (hf : OpnAt w B) (h1 : ∀ v ∈ vs, v.oneCell' = true)
    (hi : (P.info? ty).map (·.size) = some vs.length) (hdst : o.dst = none)
    (h : wpList P ops Q rest a (fill w B j vs)) : wpList P ops Q (o :: rest) a w := by
  refine wpList_plain hgd fun K hK => ?_
  unfold Oper.wp execOp
  simp only [ho, hx, hy, Instr.storeAt, Instr.sureAddr, Sem.run_bind, Sem.run_pure, Result.andThen_ok, run_storeVar_blk w B j ty vs hc hf h1 hi]
  first
    | exact hK _ _ h
    | (simp only [Oper.upon]; exact hK _ _ h)
    | (simp only [Oper.upon, hdst]; exact hK _ _ h)
theorem results_blk {fn : Func} {p : Tmp} {ty : TypeId} (h : fn.results = #[.cell p ty]) (tmps : Array Value) (w : World) (B : Nat) (cs : List Value) (d : TypeDesc)
    (hp : tmps.getD p undef = .pointer (some ⟨B, 0, none⟩)) (hc : BlkAt w B cs)
    (hu : P.underlying ty = some d) (hd : (match d with | .struct _ | .array _ _ => true | _ => false) = true) (hi : (P.info? ty).map (·.size) = some cs.length) :
    (results fn tmps).run P w = .ok (.agg cs.toArray) w := by
  have hp' : tmps[p]?.getD undef = .pointer (some ⟨B, 0, none⟩) := by simpa using hp
  simp [results, h, hp', asAddr, run_loadVar_blk w B ty cs d hc hu hd hi]
end
theorem BlkAt.fill0 {u : World} {B : Nat} {old vs : List Value} (h : BlkAt u B old) (hl : old.length = vs.length) : BlkAt (Go.Proofs.YtlfokigiejcfoaaGreatDoor.M.fill u B 0 vs) B vs := by
  have k := BlkAt.fill vs [] old [] 0 (by simpa using h) hl rfl
  simpa using k
/-- One step that gives a value, by its own law. -/
theorem wpList_val {P : Program} {ops : Array Oper} {rest : List Oper} {o : Oper} {a : Act} {w : World} {Q : Exit → Act → World → Prop} (hgd : o.guard = none) (p : Op) (_hop : o.op = p) (v : Value) (w' : World) (he : (execOp a.eval o).run P w = .ok (.value v) w')
    (h : wpList P ops Q rest (a.put o.dst v) w') : wpList P ops Q (o :: rest) a w := by
  refine wpList_plain hgd fun K hK => ?_
  unfold Oper.wp
  rw [he]
  exact hK _ _ h
theorem heap_fill {B : Nat} (k : Nat) (hne : k ≠ B) (vs : List Value) : ∀ {u : World} (j : Nat), (fill u B j vs).heap[k]? = u.heap[k]? := by
  induction vs with
  | nil => intro u j; rfl
  | cons v vs ih =>
    intro u j
    exact (ih (j + 1)).trans (Below.heap_setCell _ _ _ _ hne)
theorem st_some (u : World) (zs vs : List Value) (ty : TypeId) (hl : zs.length = vs.length) : ∀ i, i < vs.length → ((u.alloc (.cells zs.toArray ty)).cell? ⟨u.heap.size, 0 + i, none⟩).isSome = true := fun i hi => by
  rw [Nat.zero_add, blk_new u zs ty i _ (List.getElem?_eq_getElem (by omega))]
  rfl
theorem st_gen {u : World} {zs vs : List Value} {ty : TypeId} {P : World → Prop} (hl : zs.length = vs.length) (h : ∀ u', Below u.heap.size u u' → BlkAt u' u.heap.size vs → OpnAt u' u.heap.size → u.heap.size < u'.heap.size → P u') : P (fill (u.alloc (.cells zs.toArray ty)) u.heap.size 0 vs) :=
  h _ (below_fill (Nat.le_refl _) _ _ ((Below.refl _ _).alloc (Nat.le_refl _) _)) (BlkAt.fill0 (blk_new u zs ty) (by omega)) (OpnAt.fill _ _ (opn_new u _ ty)) (by rw [size_fill]; simp)
theorem st_over {u : World} {B N : Nat} {old vs : List Value} {P : World → Prop} (hl : old.length = vs.length) (hB : BlkAt u B old) (hO : OpnAt u B) (hN : N ≤ B) (h : ∀ u', Below N u u' → BlkAt u' B vs → OpnAt u' B → u.heap.size ≤ u'.heap.size → (∀ k, k < u.heap.size → k ≠ B → u'.heap[k]? = u.heap[k]?) → P u') : P (fill u B 0 vs) :=
  h _ (below_fill hN _ _ (Below.refl _ _)) (BlkAt.fill0 hB hl) (OpnAt.fill _ _ hO) (by rw [size_fill]; exact Nat.le_refl _) (fun k _ hne => heap_fill k hne _ _)
theorem blk_some {u : World} {B : Nat} {old vs : List Value} (hB : BlkAt u B old) (hl : old.length = vs.length) : ∀ i, i < vs.length → (u.cell? ⟨B, 0 + i, none⟩).isSome = true := fun i hi => by
  rw [Nat.zero_add, hB i _ (List.getElem?_eq_getElem (by omega))]
  rfl
end Go.Proofs.YtlfokigiejcfoaaGreatDoor.M
