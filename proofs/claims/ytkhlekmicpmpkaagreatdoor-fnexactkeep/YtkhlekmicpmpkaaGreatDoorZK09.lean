import Derived.Test.YtkhlekmicpmpkaaGreatDoorZK07
import Derived.Test.YtkhlekmicpmpkaaGreatDoorZK08
import Derived.Laws.Rows
import Derived.Laws.IdiomCopy
namespace Go.Proofs.YtkhlekmicpmpkaaGreatDoor
open Go.RowKit
set_option maxRecDepth 100000
set_option linter.unusedVariables false
theorem c52 (b : Bool) (w : World) : Calls Tryz.prog 52 #[.bool b] w fun e w' => e = .returned (.string (if b then ⟨#[49]⟩ else ⟨#[48]⟩)) ∧ Below w.heap.size w w' := by
 cases b
 · go_enter Tryz.func52, Tryz.ntmps52
   go_wp2
   go_ret
   exact ⟨rfl, Below.refl _ _⟩
 · go_enter Tryz.func52, Tryz.ntmps52
   go_wp2
   go_ret
   exact ⟨rfl, Below.refl _ _⟩
def keyR (m : M3) : ByteArray := m.tl ++ ⟨#[32]⟩ ++ m.ar
theorem c89 (m : M3) (w : World) (hm : m.le 1048600) : Calls Tryz.prog 89 #[.agg #[.string m.nm, .string m.tl, .string m.ar]] w fun e w' => e = .returned (.string (keyR m)) ∧ Below w.heap.size w w' := by
 have h1 := hm.2.1
 have h2 := hm.2.2
 have hB : ∀ o, Below w.heap.size w (w.alloc o) := fun o => (Below.refl _ _).alloc (Nat.le_refl _) _
 go_enter Tryz.func89, Tryz.ntmps89
 go_wp2
 go_ret
 exact ⟨rfl, hB _⟩
def glT (x : L4) : ByteArray := if x.has then (if x.cd = 0 then ⟨#[49]⟩ else ⟨#[48]⟩) else ofL (formR x.cd x.tx.data.toList)
set_option maxHeartbeats 1000000 in
theorem c105 (x : L4) (w : World) (hx : x.tx.size ≤ 1048700) : Calls Tryz.prog 105 #[.agg #[.bool x.has, .string x.nm, .int .i64 x.cd, .string x.tx]] w fun e w' => e = .returned (.string (glT x)) ∧ Below w.heap.size w w' := by
 obtain ⟨h, nm, cd, tx⟩ := x
 simp only at hx ⊢
 have hB : ∀ o, Below w.heap.size w (w.alloc o) := fun o => (Below.refl _ _).alloc (Nat.le_refl _) _
 cases h
 · go_enter Tryz.func105, Tryz.ntmps105
   go_wp2_with fail
   refine (c88 cd tx _ hx).mono ?_
   rintro e w1 ⟨rfl, hb1⟩
   have hB1 := (hB (.cells #[.bool false, .string nm, .int .i64 cd, .string tx] 61)).trans (hb1.mono (by simp))
   clear hb1
   go_wp2
   go_ret
   exact ⟨rfl, hB1⟩
 · by_cases h0 : cd = 0
   · subst h0
     go_enter Tryz.func105, Tryz.ntmps105
     go_wp2
     go_ret
     exact ⟨rfl, hB _⟩
   · have h1 : (cd == 0) = false := by simpa using h0
     have hG : Hid (glT ⟨true, nm, cd, tx⟩ = ⟨#[48]⟩) := by show glT _ = _; unfold glT; simp [h0]
     go_enter Tryz.func105, Tryz.ntmps105
     go_wp2
     go_ret
     exact ⟨by rw [hG.out]; rfl, hB _⟩
set_option maxHeartbeats 2000000 in
theorem c106 (xg yg : List G3) (ai bi : Option Addr) (ci di : Nat) (w : World) (hl : xg.length ≤ 1048576) (hl' : yg.length ≤ 1048576) (hat : GlsAt w ai xg) (hat' : GlsAt w bi yg) :
 Calls Tryz.prog 106 #[.slice ai xg.length ci, .slice bi yg.length di] w fun e w' => Rb (xg = yg) e ∧ Below w.heap.size w w' := by
 by_cases hn : xg.length = yg.length
 · rw [← hn]
   have HNn := hidI hn
   clear hn
   obtain ⟨b, off, hc⟩ := gls_some hat
   obtain ⟨b', off', hc'⟩ := gls_some hat'
   have HC := hidI hc
   have HC' := hidI hc'
   clear hc hc' hat hat'
   go_enter Tryz.func106, Tryz.ntmps106
   go_wp2_with fail
   go_loopw [13] (fun i wr => ∃ (k : Nat), k ≤ xg.length ∧ i = .int .i64 k ∧ Hid (∀ j, j < k → xg.getD j g3z = yg.getD j g3z) ∧ Below w.heap.size w wr) (fun i _ => xg.length - (intOf i).toNat)
   case atStart => exact ⟨0, Nat.zero_le _, rfl, fun j h => absurd h (Nat.not_lt_zero _), Below.refl _ _⟩
   case round =>
    obtain ⟨k, hk2, rfl, hd, hb⟩ := hrel
    have hB1 := hb
    by_cases hlt : k < xg.length
    · rcases HC.out with hss | ⟨ha, hbw, hcell⟩
      · rw [hss] at hlt; exact absurd hlt (Nat.not_lt_zero _)
      rcases HC'.out with hss | ⟨ha', hbw', hcell'⟩
      · have hn := HNn.out; rw [hss] at hn; rw [hn] at hlt; exact absurd hlt (Nat.not_lt_zero _)
      subst ha
      subst ha'
      have g0 := (hb.cell (p := ⟨b, off + k * 3, none⟩) hbw).trans (hcell k hlt).1
      have g1 := (hb.cell (p := ⟨b, off + k * 3 + 1, none⟩) hbw).trans (hcell k hlt).2.1
      have g2 := (hb.cell (p := ⟨b, off + k * 3 + 2, none⟩) hbw).trans (hcell k hlt).2.2
      have g0' := (hb.cell (p := ⟨b', off' + k * 3, none⟩) hbw').trans (hcell' k (by have := HNn.out; omega)).1
      have g1' := (hb.cell (p := ⟨b', off' + k * 3 + 1, none⟩) hbw').trans (hcell' k (by have := HNn.out; omega)).2.1
      have g2' := (hb.cell (p := ⟨b', off' + k * 3 + 2, none⟩) hbw').trans (hcell' k (by have := HNn.out; omega)).2.2
      clear hcell hcell'
      by_cases hg : xg.getD k g3z = yg.getD k g3z
      · have HD : Hid (∀ j, j < k + 1 → xg.getD j g3z = yg.getD j g3z) := fun j hj => by
         rcases Nat.lt_or_ge j k with h | h
         · exact hd.out j h
         · obtain rfl : j = k := by omega
           exact hg
        rw [← hg] at g0' g1' g2'
        generalize xg.getD k g3z = X at *
        clear hg hd
        go_wp2_with fail
        go_region
        all_goals go_wp2
        all_goals go_roundw
        all_goals first
         | exact ⟨k + 1, by omega, by go_num, HD, hb.drew⟩
         | (simp [intOf]; omega)
      · have HN : Hid (¬ xg = yg) := fun h => hg (by rw [h])
        generalize xg.getD k g3z = X at *
        generalize yg.getD k g3z = Y at *
        obtain ⟨n1, t1, r1⟩ := X
        obtain ⟨n2, t2, r2⟩ := Y
        by_cases q1 : n1 = n2
        · subst q1
          by_cases q2 : t1 = t2
          · subst q2
            have q3 : ¬ r1 = r2 := fun h => hg (by rw [h])
            have q3' := list_ne q3
            clear hg
            go_wp2_with fail
            go_region
            all_goals go_wp2
            all_goals go_ret
            all_goals exact ⟨rb_no HN.out, hB1.drew⟩
          · have q2' := list_ne q2
            clear hg
            go_wp2_with fail
            go_region
            all_goals go_wp2
            all_goals go_ret
            all_goals exact ⟨rb_no HN.out, hB1.drew⟩
        · have q1' : (n1 == n2) = false := by simpa using q1
          clear hg
          go_wp2_with fail
          go_region
          all_goals go_wp2
          all_goals go_ret
          all_goals exact ⟨rb_no HN.out, hB1.drew⟩
    · obtain rfl : k = xg.length := by omega
      have HY : Hid (xg = yg) := by
       exact getD_all HNn.out hd.out
      go_wp2
      go_ret
      exact ⟨rb_yes HY.out, hB1⟩
 · have HN : Hid (¬ xg = yg) := fun h => hn (by rw [h])
   have hn1 : ¬ (xg.length : Int) = yg.length := by omega
   go_enter Tryz.func106, Tryz.ntmps106
   go_wp2
   go_ret
   exact ⟨rb_no HN.out, Below.refl _ _⟩
end Go.Proofs.YtkhlekmicpmpkaaGreatDoor
namespace Go.Proofs.YtkhlekmicpmpkaaGreatDoor
open Go.RowKit
set_option maxRecDepth 100000
def BlkAt (u : World) (B : Nat) (vs : List Value) : Prop := ∀ j v, vs[j]? = some v → u.cell? ⟨B, j, none⟩ = some v
def OpnAt (u : World) (B : Nat) : Prop := ∀ j, u.frozen? ⟨B, j, none⟩ = false
theorem blk_new (w : World) (vs : List Value) (t : TypeId) : BlkAt (w.alloc (.cells vs.toArray t)) w.heap.size vs := fun j v h => by
 simp [go_sem, h]
theorem opn_new (w : World) (a : Array Value) (t : TypeId) : OpnAt (w.alloc (.cells a t)) w.heap.size := fun j => by simp [go_sem]
theorem BlkAt.below {u u' : World} {B N : Nat} {vs : List Value} (h : BlkAt u B vs) (hb : Below N u u') (hN : B < N) : BlkAt u' B vs := fun j v e => (hb.cell (p := ⟨B, j, none⟩) hN).trans (h j v e)
theorem OpnAt.below {u u' : World} {B N : Nat} (h : OpnAt u B) (hb : Below N u u') (hN : B < N) : OpnAt u' B := fun j => (hb.frozen (p := ⟨B, j, none⟩) hN).trans (h j)
theorem BlkAt.set {u : World} {B : Nat} {vs : List Value} (h : BlkAt u B vs) (j : Nat) (v : Value) (hj : j < vs.length) : BlkAt (u.setCell ⟨B, j, none⟩ v) B (vs.set j v) := fun i x e => by
 rcases Nat.decEq i j with hne | rfl
 · rw [World.cell?_setCell_other _ _ _ _ (adr_ne (fun e => hne e.symm))]
   rw [List.getElem?_set_ne (fun h => hne h.symm)] at e
   exact h i x e
 · rw [List.getElem?_set_self hj] at e
   obtain rfl := Option.some.inj e
   exact World.cell?_setCell_same _ _ _ (h i _ (List.getElem?_eq_getElem hj))
theorem BlkAt.other {u : World} {B : Nat} {vs : List Value} (h : BlkAt u B vs) (p : Addr) (v : Value) (hp : p.block ≠ B) : BlkAt (u.setCell p v) B vs := fun i x e => by
 rw [World.cell?_setCell_other _ _ _ _ (fun h => hp (by rw [h]))]
 exact h i x e
theorem OpnAt.set {u : World} {B : Nat} (h : OpnAt u B) (p : Addr) (v : Value) : OpnAt (u.setCell p v) B := fun j => by simpa using h j
def fill (u : World) (B : Nat) : Nat → List Value → World
 | _, [] => u
 | j, v :: vs => fill (u.setCell ⟨B, j, none⟩ v) B (j + 1) vs
theorem BlkAt.fill {B : Nat} (vs : List Value) : ∀ {u : World} (pre old post : List Value) (j : Nat), BlkAt u B (pre ++ old ++ post) → old.length = vs.length → j = pre.length → BlkAt (fill u B j vs) B (pre ++ vs ++ post) := by
 induction vs with
 | nil => intro u pre old post j h hl _; obtain rfl : old = [] := List.length_eq_zero_iff.1 hl; exact h
 | cons v vs ih =>
  intro u pre old post j h hl hj
  match old, hl with
  | o :: old, hl =>
   subst hj
   have h1 := h.set pre.length v (by simp)
   have e : (pre ++ (o :: old) ++ post).set pre.length v = (pre ++ [v]) ++ old ++ post := by simp
   rw [e] at h1
   have := ih (pre ++ [v]) old post (pre.length + 1) h1 (by simpa using hl) (by simp)
   have e2 : pre ++ [v] ++ vs ++ post = pre ++ (v :: vs) ++ post := by simp
   rw [e2] at this
   exact this
theorem OpnAt.fill {B B' : Nat} (vs : List Value) : ∀ {u : World} (j : Nat), OpnAt u B' → OpnAt (Go.Proofs.YtkhlekmicpmpkaaGreatDoor.fill u B j vs) B' := by
 induction vs with
 | nil => intro u j h; exact h
 | cons v vs ih => intro u j h; exact ih (j + 1) (h.set ⟨B, j, none⟩ v)
theorem below_fill {B N : Nat} {w : World} (hN : N ≤ B) (vs : List Value) : ∀ {u : World} (j : Nat), Below N w u → Below N w (fill u B j vs) := by
 induction vs with
 | nil => intro u j h; exact h
 | cons v vs ih => intro u j h; exact ih (j + 1) (h.setCell (p := ⟨B, j, none⟩) hN v)
theorem size_fill {B : Nat} (vs : List Value) : ∀ {u : World} (j : Nat), (fill u B j vs).heap.size = u.heap.size := by
 induction vs with
 | nil => intro u j; rfl
 | cons v vs ih => intro u j; exact (ih (j + 1)).trans (by simp)
end Go.Proofs.YtkhlekmicpmpkaaGreatDoor
namespace Go.Proofs.YtkhlekmicpmpkaaGreatDoor
open Go.RowKit
set_option maxRecDepth 100000
theorem fill_eq (B : Nat) (vs : List Value) : ∀ (u : World) (j : Nat), fill u B j vs = u.setCells B j vs := by
 induction vs with
 | nil => intro u j; rfl
 | cons v vs ih => intro u j; exact ih _ _
theorem adr_add (B o j : Nat) : (⟨B, o, none⟩ : Addr).add j = ⟨B, o + j, none⟩ := by unfold Addr.add; split <;> simp_all
section
variable {P : Program}
theorem run_loadVar_blk (w : World) (B : Nat) (ty : TypeId) (cs : List Value) (d : TypeDesc) (hc : BlkAt w B cs)
 (hu : P.underlying ty = some d) (hd : (match d with | .struct _ | .array _ _ => true | _ => false) = true) (hi : (P.info? ty).map (·.size) = some cs.length) :
 (loadVar ty ⟨B, 0, none⟩).run P w = .ok (.agg cs.toArray) w := by
 have hl : (loadCells ⟨B, 0, none⟩ cs.length).run P w = .ok cs.toArray w :=
  run_loadCells_list (P := P) w ⟨B, 0, none⟩ cs (fun j v hv => by rw [adr_add, Nat.zero_add]; exact hc j v hv)
 cases hq : P.info? ty with
 | none => simp [hq] at hi
 | some i =>
  have hs : i.size = cs.length := by simpa [hq] using hi
  have hagg : (isAgg ty).run P w = .ok true w := by
   unfold isAgg
   rw [Sem.run_bind, run_underlying hu w]
   cases d <;> simp_all
  simp [loadVar, Sem.run_bind, hagg, sizeOf, typeInfo, hq, hs, hl]
theorem wpList_load_blk {ops : Array Oper} {rest : List Oper} {o : Oper} {a : Act} {w : World} {Q : Exit → Act → World → Prop} (hgd : o.guard = none) (ty : TypeId) (x : Operand) (ho : o.op = .load ty x)
 (B : Nat) (hx : a.eval x = .pointer (some ⟨B, 0, none⟩)) (cs : List Value) (d : TypeDesc) (hc : BlkAt w B cs)
 (hu : P.underlying ty = some d) (hd : (match d with | .struct _ | .array _ _ => true | _ => false) = true) (hi : (P.info? ty).map (·.size) = some cs.length)
 (h : wpList P ops Q rest (a.put o.dst (.agg cs.toArray)) w) : wpList P ops Q (o :: rest) a w := by
 refine wpList_plain hgd fun K hK => ?_
 unfold Oper.wp execOp
 simp only [ho, hx, Instr.loadAt, Instr.sureAddr, Sem.run_bind, Sem.run_pure, Result.andThen_ok, run_loadVar_blk w B ty cs d hc hu hd hi]
 exact hK _ _ h
theorem run_storeVar_blk (w : World) (B j : Nat) (ty : TypeId) (vs : List Value) (hc : ∀ i, i < vs.length → (w.cell? ⟨B, j + i, none⟩).isSome = true) (hf : OpnAt w B) (h1 : ∀ v ∈ vs, v.oneCell' = true)
 (hi : (P.info? ty).map (·.size) = some vs.length) :
 (storeVar ty ⟨B, j, none⟩ (.agg vs.toArray)).run P w = .ok () (fill w B j vs) := by
 have hs := run_storeCells_cells (P := P) B j vs 0 w (fun i h => by simpa using hc i h) (fun i _ => hf _) h1
 rw [Nat.add_zero, ← fill_eq] at hs
 cases hq : P.info? ty with
 | none => simp [hq] at hi
 | some i =>
  have hz : i.size = vs.length := by simpa [hq] using hi
  simp [storeVar, Value.cells, Sem.run_bind, sizeOf, typeInfo, hq, hz, hs]
theorem wpList_store_blk {ops : Array Oper} {rest : List Oper} {o : Oper} {a : Act} {w : World} {Q : Exit → Act → World → Prop} (hgd : o.guard = none) (ty : TypeId) (x y : Operand) (ho : o.op = .store ty x y)
 (B j : Nat) (hx : a.eval x = .pointer (some ⟨B, j, none⟩)) (vs : List Value) (hy : a.eval y = .agg vs.toArray) (hc : ∀ i, i < vs.length → (w.cell? ⟨B, j + i, none⟩).isSome = true) (hf : OpnAt w B) (h1 : ∀ v ∈ vs, v.oneCell' = true)
 (hi : (P.info? ty).map (·.size) = some vs.length) (hdst : o.dst = none)
 (h : wpList P ops Q rest a (fill w B j vs)) : wpList P ops Q (o :: rest) a w := by
 refine wpList_plain hgd fun K hK => ?_
 unfold Oper.wp execOp
 simp only [ho, hx, hy, Instr.storeAt, Instr.sureAddr, Sem.run_bind, Sem.run_pure, Result.andThen_ok, run_storeVar_blk w B j ty vs hc hf h1 hi]
 first
  | exact hK _ _ h
  | (simp only [Oper.upon]; exact hK _ _ h)
  | (simp only [Oper.upon, hdst]; exact hK _ _ h)
theorem results_blk {fn : Func} {p : Tmp} {ty : TypeId} (h : fn.results = #[.cell p ty]) (tmps : Array Value) (w : World) (B : Nat) (cs : List Value) (d : TypeDesc)
 (hp : tmps.getD p undef = .pointer (some ⟨B, 0, none⟩)) (hc : BlkAt w B cs)
 (hu : P.underlying ty = some d) (hd : (match d with | .struct _ | .array _ _ => true | _ => false) = true) (hi : (P.info? ty).map (·.size) = some cs.length) :
 (results fn tmps).run P w = .ok (.agg cs.toArray) w := by
 have hp' : tmps[p]?.getD undef = .pointer (some ⟨B, 0, none⟩) := by simpa using hp
 simp [results, h, hp', asAddr, run_loadVar_blk w B ty cs d hc hu hd hi]
end
end Go.Proofs.YtkhlekmicpmpkaaGreatDoor
