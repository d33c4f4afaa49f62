import Derived.Test.YtboojefodbjbcaaGreatDoorZR25
import Derived.Maps.OwnRows
import Derived.Deep.RegionHeld3
namespace Go.Proofs.YtboojefodbjbcaaGreatDoor
open Go.RowKit Go.Maps
set_option maxRecDepth 100000
set_option linter.unusedVariables false
theorem lawS : Keyed Tryz.prog 9 := string_keyed Tryz.underlying9
theorem lawI : Keyed Tryz.prog 3 := int_keyed Tryz.underlying3
theorem keyS {k : ByteArray} (h : k.size ≤ maxLen) : keyOf Tryz.prog 9 (.string k) = some (kS k) := Go.WideMaps.keyOf_string_mk Tryz.underlying9 h
theorem keyI {i : Nat} (h : i ≤ 1048576) : keyOf Tryz.prog 3 (.int .i64 i) = some (.int .i64 i) := keyOf_int_mk Tryz.underlying3 (WalkArith.wf_i64 (by omega))
theorem mp_tight {w : World} {k : TypeId} {R : Value → Option (DataW Value × List MemPlace)} {b n : Nat} {D : DataW Value} (h : w.ownsMap Tryz.prog k R b n D) : w.ownsMap Tryz.prog k R b (size D) D := by
 obtain ⟨es, clock, hb, F, hs, hD⟩ := h
 refine ⟨es, clock, hb, F, ?_, hD⟩
 rw [hD, size_eq, length_sorted]
 simp
theorem mp_below {w w' : World} {k : TypeId} {R : Value → Option (DataW Value × List MemPlace)} {b n N : Nat} {D : DataW Value} (h : w.ownsMap Tryz.prog k R b n D) (hb : Below N w w') (hN : b < N) : w'.ownsMap Tryz.prog k R b n D := by
 obtain ⟨es, clock, hh, r⟩ := h
 exact ⟨es, clock, (hb.block b hN).trans hh, r⟩
theorem mp_isMap {w : World} {k : TypeId} {R : Value → Option (DataW Value × List MemPlace)} {b n : Nat} {D : DataW Value} (h : w.ownsMap Tryz.prog k R b n D) : ∃ es clock, w.heap[b]? = some (.map es clock) := by
 obtain ⟨es, clock, hh, r⟩ := h
 exact ⟨es, clock, hh⟩
theorem tok_inv {v : Value} {d : DataW Value} {ps : List MemPlace} (h : tokR v = some (d, ps)) : d = .held v := by
 unfold tokR at h
 simp only [Option.some.injEq, Prod.mk.injEq] at h
 exact h.1.symm
theorem look_ok_S {w : World} {b n : Nat} {l : List (ByteArray × Value)} {t e : TypeId} {z : Value} {k : ByteArray} (h : w.ownsMap Tryz.prog 9 tokR b n (mapD l)) (ht : Tryz.prog.underlying t = some (.map 9 e)) (hz : (zeroValue e).run Tryz.prog w = .ok z w) (hk : k.size ≤ maxLen) :
 (Instr.lookup t (.map (some b)) (.string k) true).run Tryz.prog w = .ok (.tuple #[(getK l k).getD z, .bool (getK l k).isSome]) w := by
 obtain ⟨v, ps, hr, hv⟩ := h.look_ok lawS ht hz (zd := .held z) (zp := []) rfl (keyS hk)
 have hd := tok_inv hv
 rw [mapD_at] at hd
 rw [mapD_has] at hr
 rw [hr]
 cases hg : getK l k with
 | none => rw [hg] at hd; simp at hd; rw [hd]; rfl
 | some u => rw [hg] at hd; simp at hd; rw [hd]; rfl
theorem look_S {w : World} {b n : Nat} {l : List (ByteArray × Value)} {t e : TypeId} {z : Value} {k : ByteArray} (h : w.ownsMap Tryz.prog 9 tokR b n (mapD l)) (ht : Tryz.prog.underlying t = some (.map 9 e)) (hz : (zeroValue e).run Tryz.prog w = .ok z w) (hk : k.size ≤ maxLen) :
 (Instr.lookup t (.map (some b)) (.string k) false).run Tryz.prog w = .ok ((getK l k).getD z) w := by
 obtain ⟨v, ps, hr, hv⟩ := h.lookup lawS ht hz (zd := .held z) (zp := []) rfl (keyS hk)
 have hd := tok_inv hv
 rw [mapD_at] at hd
 rw [hr]
 cases hg : getK l k with
 | none => rw [hg] at hd; simp at hd; rw [hd]; rfl
 | some u => rw [hg] at hd; simp at hd; rw [hd]; rfl
theorem look_I {w : World} {b n : Nat} {vs : List Value} {t e : TypeId} {z : Value} {k : Nat} (h : w.ownsMap Tryz.prog 3 tokR b n (intD vs)) (ht : Tryz.prog.underlying t = some (.map 3 e)) (hz : (zeroValue e).run Tryz.prog w = .ok z w) (hk : k ≤ 1048576) (hlt : k < vs.length) :
 (Instr.lookup t (.map (some b)) (.int .i64 k) false).run Tryz.prog w = .ok (vs.getD k undef) w := by
 obtain ⟨v, ps, hr, hv⟩ := h.lookup lawI ht hz (zd := .held z) (zp := []) rfl (keyI hk)
 have hd := tok_inv hv
 rw [intD_at, if_pos hlt] at hd
 simp at hd
 rw [hr, List.getD_eq_getElem?_getD, hd]
theorem up_S {w : World} {b n : Nat} {l : List (ByteArray × Value)} {t e : TypeId} {v : Value} {k : ByteArray} (h : w.ownsMap Tryz.prog 9 tokR b n (mapD l)) (ht : Tryz.prog.underlying t = some (.map 9 e)) (hn : n < maxLen) (hk : k.size ≤ maxLen) :
 ∃ w', (Instr.mapUpdate t (.map (some b)) (.string k) v).run Tryz.prog w = .ok () w' ∧ w'.ownsMap Tryz.prog 9 tokR b (n + 1) ((mapD l).put (kS k) (.held v)) ∧ w.grownBy w' (some b) :=
 h.update lawS ht hn (keyS hk) (d := .held v) (ps := []) rfl
theorem up_I {w : World} {b n : Nat} {vs : List Value} {t e : TypeId} {v : Value} (h : w.ownsMap Tryz.prog 3 tokR b n (intD vs)) (ht : Tryz.prog.underlying t = some (.map 3 e)) (hn : n < maxLen) (hk : vs.length ≤ 1048576) :
 ∃ w', (Instr.mapUpdate t (.map (some b)) (.int .i64 vs.length) v).run Tryz.prog w = .ok () w' ∧ w'.ownsMap Tryz.prog 3 tokR b (vs ++ [v]).length (intD (vs ++ [v])) ∧ w.grownBy w' (some b) := by
 obtain ⟨w', h1, h2, h3⟩ := h.update lawI ht hn (keyI hk) (d := .held v) (ps := []) rfl
 rw [intD_put] at h2
 have h4 := mp_tight h2
 rw [intD_size] at h4
 exact ⟨w', h1, h4, h3⟩
theorem step_upI {ops : Array Oper} {o : Oper} {a : Act} {w : World} {K : Act → World → Prop} {Q : Exit → Act → World → Prop} {E : Prop} (hg : o.guard = none) (t : TypeId) (m x v : Operand) (ho : o.op = Op.mapUpdate t m x v) {b n : Nat} {vs : List Value} {e : TypeId} {vv : Value}
 (hm : a.eval m = .map (some b)) (hx : a.eval x = .int .i64 vs.length) (hv : a.eval v = vv) (h : w.ownsMap Tryz.prog 3 tokR b n (intD vs)) (ht : Tryz.prog.underlying t = some (.map 3 e)) (hn : n < maxLen) (hk : vs.length ≤ 1048576) (hdst : o.dst = none)
 (hK : ∀ w', w'.ownsMap Tryz.prog 3 tokR b (vs ++ [vv]).length (intD (vs ++ [vv])) → w.grownBy w' (some b) → K a w') :
 if Region.wanted o (yielded ops a.tmps) = true then Oper.wp Tryz.prog o a w K Q else E := by
 have hw : Region.wanted o (yielded ops a.tmps) = true := by simp [Region.wanted, hg]
 rw [if_pos hw]
 obtain ⟨w', hr, h1, h2⟩ := up_I (v := vv) h ht hn hk
 have h3 := hK w' h1 h2
 unfold Oper.wp
 simp [execOp, ho, hm, hx, hv, hr, Result.andThen]
 first
  | exact h3
  | (simp only [Oper.upon]; exact h3)
  | (simp only [Oper.upon, hdst]; exact h3)
  | (simp only [Act.put, hdst]; exact h3)
theorem step_upS {ops : Array Oper} {o : Oper} {a : Act} {w : World} {K : Act → World → Prop} {Q : Exit → Act → World → Prop} {E : Prop} (hg : o.guard = none) (t : TypeId) (m x v : Operand) (ho : o.op = Op.mapUpdate t m x v) {b n : Nat} {l : List (ByteArray × Value)} {k : ByteArray} {e : TypeId} {vv : Value}
 (hm : a.eval m = .map (some b)) (hx : a.eval x = .string k) (hv : a.eval v = vv) (h : w.ownsMap Tryz.prog 9 tokR b n (mapD l)) (ht : Tryz.prog.underlying t = some (.map 9 e)) (hn : n < maxLen) (hk : k.size ≤ maxLen) (hdst : o.dst = none)
 (hK : ∀ w', w'.ownsMap Tryz.prog 9 tokR b (n + 1) ((mapD l).put (kS k) (.held vv)) → w.grownBy w' (some b) → K a w') :
 if Region.wanted o (yielded ops a.tmps) = true then Oper.wp Tryz.prog o a w K Q else E := by
 have hw : Region.wanted o (yielded ops a.tmps) = true := by simp [Region.wanted, hg]
 rw [if_pos hw]
 obtain ⟨w', hr, h1, h2⟩ := up_S (v := vv) h ht hn hk
 have h3 := hK w' h1 h2
 unfold Oper.wp
 simp [execOp, ho, hm, hx, hv, hr, Result.andThen]
 first
  | exact h3
  | (simp only [Oper.upon]; exact h3)
  | (simp only [Oper.upon, hdst]; exact h3)
  | (simp only [Act.put, hdst]; exact h3)
def RecV (B : Nat) (w : World) (v : Value) (x : R3) : Prop := ∃ a c, v = .agg #[.string x.key, .slice a x.gs.length c, .string x.out] ∧ GlsAt w a x.gs ∧ (x.gs = [] ∨ ∃ b off, a = some ⟨b, off, none⟩ ∧ (b < B ∨ ∃ cur fr, w.heap[b]? = some (.cells cur 92 fr)))
def NoRow (B : Nat) (w : World) (row : Option Nat) : Prop := ∀ j, row = some j → B ≤ j ∧ ∀ cur fr, w.heap[j]? ≠ some (.cells cur 92 fr)
theorem RecV.kept {B : Nat} {w w' : World} {v : Value} {x : R3} {row : Option Nat} (h : RecV B w v x) (hg : w.grownBy w' row) (hr : NoRow B w row) : RecV B w' v x := by
 obtain ⟨a, c, hv, hG, hS⟩ := h
 rcases hS with hn | ⟨b, off, ha, hb⟩
 · exact ⟨a, c, hv, .inl hn, .inl hn⟩
 · rcases hG with hn | ⟨b', off', ha', hlt, hc⟩
   · exact ⟨a, c, hv, .inl hn, .inl hn⟩
   · obtain ⟨rfl, rfl⟩ : b' = b ∧ off' = off := by rw [ha] at ha'; simp at ha'; exact ⟨ha'.1.symm, ha'.2.symm⟩
     have hne : some b' ≠ row := fun e => by
      have := hr b' e.symm
      rcases hb with hb | ⟨cur, fr, hb⟩
      · omega
      · exact this.2 cur fr hb
     have hbl := hg.block b' hlt hne
     refine ⟨a, c, hv, .inr ⟨b', off', ha, Nat.lt_of_lt_of_le hlt hg.size, fun i hi => ?_⟩, .inr ⟨b', off', ha, ?_⟩⟩
     · obtain ⟨h0, h1, h2⟩ := hc i hi
       refine ⟨?_, ?_, ?_⟩
       · rw [← h0]; simp only [World.cell?, hbl]
       · rw [← h1]; simp only [World.cell?, hbl]
       · rw [← h2]; simp only [World.cell?, hbl]
     · rcases hb with hb | ⟨cur, fr, hb⟩
       · exact .inl hb
       · exact .inr ⟨cur, fr, hbl.trans hb⟩
def plc (rs : List R3) (k : ByteArray) : List Int := ((List.range rs.length).filter fun i => decide ((rs.getD i r3z).key = k)).map fun i : Nat => (i : Int)
theorem plc_snoc (rs : List R3) (x : R3) (k : ByteArray) : plc (rs ++ [x]) k = plc rs k ++ if x.key = k then [(rs.length : Int)] else [] := by
 unfold plc
 rw [List.length_append, List.length_singleton, List.range_succ, List.filter_append, List.map_append]
 congr 1
 · congr 1
   apply List.filter_congr
   intro i hi
   have := List.mem_range.1 hi
   have e : (rs ++ [x]).getD i r3z = rs.getD i r3z := by simp [List.getD, List.getElem?_append_left this]
   rw [e]
 · by_cases h : x.key = k <;> simp [List.getD, h]
theorem plc_len (rs : List R3) (k : ByteArray) : (plc rs k).length ≤ rs.length := by
 unfold plc
 rw [List.length_map]
 exact Nat.le_trans (List.length_filter_le _ _) (by simp)
def OfT (w : World) (b : Nat) (t : TypeId) : Prop := ∃ cur fr, w.heap[b]? = some (.cells cur t fr)
theorem OfT.below {w w' : World} {b N : Nat} {t : TypeId} (h : OfT w b t) (hb : Below N w w') (hN : b < N) : OfT w' b t := by
 obtain ⟨cur, fr, h⟩ := h
 exact ⟨cur, fr, (hb.block b hN).trans h⟩
theorem OfT.kept {w w' : World} {b : Nat} {t : TypeId} {row : Option Nat} (h : OfT w b t) (hg : w.grownBy w' row) (hne : some b ≠ row) : OfT w' b t := by
 obtain ⟨cur, fr, h⟩ := h
 exact ⟨cur, fr, (hg.block b (Array.getElem?_eq_some_iff.1 h).1 hne).trans h⟩
theorem ofT_new (w : World) (a : Array Value) (t : TypeId) : OfT (w.alloc (.cells a t)) w.heap.size t := ⟨a, (0, 0), (MapKept.heap_alloc w _).1⟩
structure ShC (B H bT bR bP : Nat) (W : Int) (l : List (ByteArray × Value)) (rv : List Value) (pl : List (ByteArray × Value)) (w : World) : Prop where
 hH : B ≤ H
 hT : B ≤ bT
 hR : B ≤ bR
 hP : B ≤ bP
 lt : H < w.heap.size
 n1 : bT ≠ bR
 n2 : bT ≠ bP
 n3 : bR ≠ bP
 blk : BlkAt w H [.int .i64 W, .map (some bT), .map (some bR), .map (some bP)]
 tx : w.ownsMap Tryz.prog 9 tokR bT l.length (mapD l)
 ta : Asc l
 rc : w.ownsMap Tryz.prog 3 tokR bR rv.length (intD rv)
 pc : w.ownsMap Tryz.prog 9 tokR bP pl.length (mapD pl)
 pa : Asc pl
 ty : OfT w H 155
structure ShR (B : Nat) (rs : List R3) (rv : List Value) (pl : List (ByteArray × Value)) (w : World) : Prop where
 len : rv.length = rs.length
 recs : ∀ i, i < rs.length → RecV B w (rv.getD i undef) (rs.getD i r3z)
 grp : ∀ k v, getK pl k = some v → w.ownsInts B 3 .i64 v (plc rs k)
 non : ∀ k, getK pl k = none → plc rs k = []
 apart : ∀ k k' v v', k ≠ k' → getK pl k = some v → getK pl k' = some v' → v.ownBlock = none ∨ v.ownBlock ≠ v'.ownBlock
 pln : pl.length ≤ rs.length
theorem cells_ne_map {w : World} {H b : Nat} {v : Value} (h : w.cell? ⟨H, 0, none⟩ = some v) {es : Array MapEntry} {c : Nat} (hm : w.heap[b]? = some (.map es c)) : H ≠ b := fun e => by
 subst e
 simp [World.cell?, hm] at h
theorem gb_below {w w' : World} {row : Option Nat} {N : Nat} (hg : w.grownBy w' row) (hr : ∀ j, row = some j → N ≤ j) (hN : N ≤ w.heap.size) : Below N w w' :=
 ⟨hg.os, hg.tape, hg.output, hg.size, fun k hk => hg.block k (by omega) (fun e => by have := hr k e.symm; omega)⟩
theorem below_gb {w w' : World} (h : Below w.heap.size w w') : w.grownBy w' none := ⟨h.os, h.tape, h.output, h.size, fun k hk _ => h.block k hk⟩
theorem blk_kept {w w' : World} {H : Nat} {vs : List Value} {row : Option Nat} (h : BlkAt w H vs) (hg : w.grownBy w' row) (hlt : H < w.heap.size) (hne : some H ≠ row) : BlkAt w' H vs := fun j v e => by
 have := h j v e
 simp only [World.cell?, hg.block H hlt hne]
 simpa only [World.cell?] using this
theorem ShC.kept {B H bT bR bP : Nat} {W : Int} {l pl : List (ByteArray × Value)} {rv : List Value} {w w' : World} {row : Option Nat} (h : ShC B H bT bR bP W l rv pl w) (hg : w.grownBy w' row) (a1 : some H ≠ row) (a2 : some bT ≠ row) (a3 : some bR ≠ row) (a4 : some bP ≠ row) : ShC B H bT bR bP W l rv pl w' :=
 ⟨h.hH, h.hT, h.hR, h.hP, Nat.lt_of_lt_of_le h.lt hg.size, h.n1, h.n2, h.n3, blk_kept h.blk hg h.lt a1, h.tx.kept hg a2, h.ta, h.rc.kept hg a3, h.pc.kept hg a4, h.pa, h.ty.kept hg a1⟩
theorem ShR.kept {B : Nat} {rs : List R3} {rv : List Value} {pl : List (ByteArray × Value)} {w w' : World} {row : Option Nat} (h : ShR B rs rv pl w) (hg : w.grownBy w' row) (hr : NoRow B w row) (hi : ∀ k v, getK pl k = some v → v.ownBlock = none ∨ v.ownBlock ≠ row) : ShR B rs rv pl w' :=
 ⟨h.len, fun i hl => (h.recs i hl).kept hg hr, fun k v e => (h.grp k v e).kept hg (hi k v e), h.non, h.apart, h.pln⟩
theorem ints_row {w : World} {B : Nat} {v : Value} {zs : List Int} (h : w.ownsInts B 3 .i64 v zs) {j : Nat} (hj : v.ownBlock = some j) : B ≤ j ∧ j < w.heap.size ∧ ∃ cur, w.heap[j]? = some (.cells cur 3 (0, 0)) := by
 rcases h.1.2 with ⟨rfl, _⟩ | ⟨g, cap, cur, rfl, hg, hh, _⟩
 · simp [Value.ownBlock] at hj
 · simp [Value.ownBlock] at hj
   subst hj
   exact ⟨hg, (Array.getElem?_eq_some_iff.1 hh).1, cur, hh⟩
theorem ShR.below {B : Nat} {rs : List R3} {rv : List Value} {pl : List (ByteArray × Value)} {w w' : World} (h : ShR B rs rv pl w) (hb : Below w.heap.size w w') : ShR B rs rv pl w' :=
 h.kept (below_gb hb) (fun _ e => by cases e) (fun k v e => by
  cases hq : v.ownBlock with
  | none => exact .inl rfl
  | some j => exact .inr (by simp))
theorem ShC.below {B H bT bR bP : Nat} {W : Int} {l pl : List (ByteArray × Value)} {rv : List Value} {w w' : World} (h : ShC B H bT bR bP W l rv pl w) (hb : Below w.heap.size w w') : ShC B H bT bR bP W l rv pl w' :=
 h.kept (below_gb hb) (by simp) (by simp) (by simp) (by simp)
theorem ShR.map {B b : Nat} {rs : List R3} {rv : List Value} {pl : List (ByteArray × Value)} {w w' : World} (h : ShR B rs rv pl w) (hg : w.grownBy w' (some b)) (hB : B ≤ b) {es : Array MapEntry} {c : Nat} (hm : w.heap[b]? = some (.map es c)) : ShR B rs rv pl w' :=
 h.kept hg (fun j e => by cases e; exact ⟨hB, fun cur fr e => by rw [hm] at e; simp at e⟩) (fun k v e => by
  cases hq : v.ownBlock with
  | none => exact .inl rfl
  | some j =>
   refine .inr (fun e2 => ?_)
   obtain ⟨_, _, cur, hc⟩ := ints_row (h.grp k v e) hq
   cases e2
   rw [hm] at hc
   simp at hc)
theorem getK_put {l : List (ByteArray × Value)} (ha : Asc l) (k : ByteArray) (v : Value) : Asc (insK (k, v) (l.filter fun p => !decide (p.1 = k))) ∧ ∀ k', getK (insK (k, v) (l.filter fun p => !decide (p.1 = k))) k' = if k' = k then some v else getK l k' := by
 have hf : Asc (l.filter fun p => !decide (p.1 = k)) := ha.filter _
 have hA : Asc (insK (k, v) (l.filter fun p => !decide (p.1 = k))) := insK_asc hf (fun p hp => by have := (List.mem_filter.1 hp).2; simpa using this)
 refine ⟨hA, fun k' => ?_⟩
 have hmem : ∀ p, p ∈ insK (k, v) (l.filter fun p => !decide (p.1 = k)) ↔ p = (k, v) ∨ (p ∈ l ∧ p.1 ≠ k) := fun p => by
  rw [(insK_perm _ _).mem_iff, List.mem_cons, List.mem_filter]
  simp
 by_cases h : k' = k
 · subst h
   rw [if_pos rfl]
   exact getK_asc hA ((hmem _).2 (.inl rfl))
 · rw [if_neg h]
   cases hq : getK l k' with
   | none =>
    exact getK_none.2 (fun p hp => by
     rcases (hmem p).1 hp with rfl | ⟨hp, _⟩
     · exact fun e => h e.symm
     · exact getK_none.1 hq p hp)
   | some u => exact getK_asc hA ((hmem _).2 (.inr ⟨getK_mem hq, h⟩))
theorem mapD_put' (l : List (ByteArray × Value)) (k : ByteArray) (v : Value) : (mapD l).put (kS k) (.held v) = mapD (insK (k, v) (l.filter fun p => !decide (p.1 = k))) := by
 show DataW.map (DataW.insert (eS (k, v)) ((l.map eS).filter fun p => !p.1.sameKey (kS k))) = DataW.map ((insK (k, v) _).map eS)
 rw [insK_eS, List.filter_map]
 congr 2
 congr 1
 apply List.filter_congr
 intro p _
 show (!(kS p.1).sameKey (kS k)) = _
 rw [kS_same]
end Go.Proofs.YtboojefodbjbcaaGreatDoor
namespace Go.Proofs.YtboojefodbjbcaaGreatDoor
open Go.RowKit
set_option maxRecDepth 100000
set_option linter.unusedVariables false
theorem own_lt {u : World} {base e size n : Nat} {v : Value} {xs : List Value} (h : u.ownsRow base e size v n xs) {k : Nat} (hk : v.ownBlock = some k) : k < u.heap.size := by
 rcases h.2 with ⟨hv, _⟩ | ⟨g, cap, cur, hv, hg, hh, _⟩
 · subst hv; simp [Value.ownBlock] at hk
 · subst hv
   simp [Value.ownBlock] at hk
   obtain rfl := hk
   exact (Array.getElem?_eq_some_iff.1 hh).1
theorem own_set {u : World} {base e size n : Nat} {v : Value} {xs : List Value} (h : u.ownsRow base e size v n xs) (p : Addr) (x : Value) (hp : p.block < base) : (u.setCell p x).ownsRow base e size v n xs := by
 refine ⟨h.1, h.2.imp id ?_⟩
 rintro ⟨g, cap, cur, h1, h2, h3, h4⟩
 exact ⟨g, cap, cur, h1, h2, (Below.heap_setCell _ _ _ _ (by omega)).trans h3, h4⟩
theorem own_below {u u' : World} {base e size n : Nat} {v : Value} {xs : List Value} (h : u.ownsRow base e size v n xs) (hb : Below u.heap.size u u') : u'.ownsRow base e size v n xs := by
 refine ⟨h.1, h.2.imp id ?_⟩
 rintro ⟨g, cap, cur, h1, h2, h3, h4⟩
 exact ⟨g, cap, cur, h1, h2, (hb.block g (Array.getElem?_eq_some_iff.1 h3).1).trans h3, h4⟩
theorem own_other {u u' : World} {R base e size n : Nat} {v : Value} {xs : List Value} (h : u.ownsRow base e size v n xs) (hs : u.heap.size ≤ u'.heap.size) (ho : ∀ k, k < u.heap.size → k ≠ R → u'.heap[k]? = u.heap[k]?) (hR : R < base) : u'.ownsRow base e size v n xs := by
 refine ⟨h.1, h.2.imp id ?_⟩
 rintro ⟨g, cap, cur, h1, h2, h3, h4⟩
 exact ⟨g, cap, cur, h1, h2, (ho g (Array.getElem?_eq_some_iff.1 h3).1 (by omega)).trans h3, h4⟩
theorem own_low {u : World} {base base' e size n : Nat} {v : Value} {xs : List Value} (h : u.ownsRow base e size v n xs) (hb : base' ≤ base) : u.ownsRow base' e size v n xs := by
 refine ⟨h.1, h.2.imp id ?_⟩
 rintro ⟨g, cap, cur, h1, h2, h3, h4⟩
 exact ⟨g, cap, cur, h1, Nat.le_trans hb h2, h3, h4⟩
end Go.Proofs.YtboojefodbjbcaaGreatDoor
