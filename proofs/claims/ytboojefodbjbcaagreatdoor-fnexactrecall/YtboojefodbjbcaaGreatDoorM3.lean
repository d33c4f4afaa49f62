import Derived.Test.YtboojefodbjbcaaGreatDoorZR00
import Derived.Test.YtboojefodbjbcaaGreatDoorZR26
namespace Go.Proofs.YtboojefodbjbcaaGreatDoor
open Go.RowKit Go.Maps
set_option maxRecDepth 100000
set_option linter.unusedVariables false
def Sh (B H bT bR bP : Nat) (W : Int) (l : List (ByteArray × Value)) (rs : List R3) (rv : List Value) (w : World) : Prop := ∃ pl, ShC B H bT bR bP W l rv pl w ∧ ShR B rs rv pl w
theorem noRow_map {B b : Nat} {w : World} {es : Array MapEntry} {c : Nat} (hB : B ≤ b) (hm : w.heap[b]? = some (.map es c)) : NoRow B w (some b) := fun j e => by
 cases e
 exact ⟨hB, fun cur fr e => by rw [hm] at e; simp at e⟩
theorem ShC.neH {B H bT bR bP : Nat} {W : Int} {l pl : List (ByteArray × Value)} {rv : List Value} {w : World} (h : ShC B H bT bR bP W l rv pl w) {k : TypeId} {R : Value → Option (DataW Value × List MemPlace)} {b n : Nat} {D : DataW Value} (hm : w.ownsMap Tryz.prog k R b n D) : some H ≠ some b := fun e => by
 obtain ⟨es, ck, hh⟩ := mp_isMap hm
 exact cells_ne_map (h.blk 0 _ rfl) hh (Option.some.inj e)
theorem ShC.upR {B H bT bR bP : Nat} {W : Int} {l pl : List (ByteArray × Value)} {rv rv' : List Value} {w w' : World} (h : ShC B H bT bR bP W l rv pl w) (hg : w.grownBy w' (some bR)) (hm : w'.ownsMap Tryz.prog 3 tokR bR rv'.length (intD rv')) : ShC B H bT bR bP W l rv' pl w' :=
 ⟨h.hH, h.hT, h.hR, h.hP, Nat.lt_of_lt_of_le h.lt hg.size, h.n1, h.n2, h.n3, blk_kept h.blk hg h.lt (h.neH h.rc), h.tx.kept hg (fun e => h.n1 (Option.some.inj e)), h.ta, hm, h.pc.kept hg (fun e => h.n3 (Option.some.inj e).symm), h.pa, h.ty.kept hg (h.neH h.rc)⟩
theorem ShC.upP {B H bT bR bP : Nat} {W : Int} {l pl pl' : List (ByteArray × Value)} {rv : List Value} {w w' : World} (h : ShC B H bT bR bP W l rv pl w) (hg : w.grownBy w' (some bP)) (hm : w'.ownsMap Tryz.prog 9 tokR bP pl'.length (mapD pl')) (ha : Asc pl') : ShC B H bT bR bP W l rv pl' w' :=
 ⟨h.hH, h.hT, h.hR, h.hP, Nat.lt_of_lt_of_le h.lt hg.size, h.n1, h.n2, h.n3, blk_kept h.blk hg h.lt (h.neH h.pc), h.tx.kept hg (fun e => h.n2 (Option.some.inj e)), h.ta, h.rc.kept hg (fun e => h.n3 (Option.some.inj e)), hm, ha, h.ty.kept hg (h.neH h.pc)⟩
theorem ShC.upT {B H bT bR bP : Nat} {W : Int} {l l' pl : List (ByteArray × Value)} {rv : List Value} {w w' : World} (h : ShC B H bT bR bP W l rv pl w) (hg : w.grownBy w' (some bT)) (hm : w'.ownsMap Tryz.prog 9 tokR bT l'.length (mapD l')) (ha : Asc l') : ShC B H bT bR bP W l' rv pl w' :=
 ⟨h.hH, h.hT, h.hR, h.hP, Nat.lt_of_lt_of_le h.lt hg.size, h.n1, h.n2, h.n3, blk_kept h.blk hg h.lt (h.neH h.tx), hm, ha, h.rc.kept hg (fun e => h.n1 (Option.some.inj e).symm), h.pc.kept hg (fun e => h.n2 (Option.some.inj e).symm), h.pa, h.ty.kept hg (h.neH h.tx)⟩
theorem ints_nomap {w : World} {B b : Nat} {v : Value} {zs : List Int} (h : w.ownsInts B 3 .i64 v zs) {es : Array MapEntry} {c : Nat} (hm : w.heap[b]? = some (.map es c)) : v.ownBlock ≠ some b := fun e => by
 obtain ⟨_, _, cur, hc⟩ := ints_row h e
 rw [hm] at hc
 simp at hc
theorem ints_noT {w : World} {B b : Nat} {t : TypeId} {v : Value} {zs : List Int} (h : w.ownsInts B 3 .i64 v zs) (hT : OfT w b t) (ht : t ≠ 3) : some b ≠ v.ownBlock := fun e => by
 obtain ⟨_, _, cur, hc⟩ := ints_row h e.symm
 obtain ⟨cur', fr, hT⟩ := hT
 rw [hT] at hc
 simp at hc
 exact ht hc.2.1
theorem ints_nomp {w : World} {B b n : Nat} {v : Value} {zs : List Int} {k : TypeId} {R : Value → Option (DataW Value × List MemPlace)} {D : DataW Value} (h : w.ownsInts B 3 .i64 v zs) (hm : w.ownsMap Tryz.prog k R b n D) : some b ≠ v.ownBlock := fun e => by
 obtain ⟨es, ck, hh⟩ := mp_isMap hm
 exact ints_nomap h hh e.symm
theorem ints_at {B : Nat} {rs : List R3} {rv : List Value} {pl : List (ByteArray × Value)} {w w' : World} {k : ByteArray} {v : Value} (R : ShR B rs rv pl w) (hv : (getK pl k).getD (.slice none 0 0) = v) (hb : Below w.heap.size w w') : w'.ownsInts B 3 .i64 v (plc rs k) := by
 cases hq : getK pl k with
 | none =>
  rw [hq] at hv
  subst hv
  rw [R.non k hq]
  exact World.ownsInts_nil _ _ _ _
 | some u =>
  rw [hq] at hv
  subst hv
  exact (R.grp k u hq).kept (below_gb hb) (by cases u.ownBlock <;> simp)
theorem step_app_at {P : Program} {ops : Array Oper} {o : Oper} {a : Act} {w : World} {K : Act → World → Prop} {Q : Exit → Act → World → Prop} {E : Prop}
 (hg : o.guard = none) (s x : Operand) (t : TypeId) (hop : o.op = Op.call { callee := Callee.builtin Builtin.append, args := #[s, x], argTypes := #[t, t] })
 (base : Nat) (e : TypeId) (i : TypeInfo) (z : Value) (size bytes : Nat) (h1 : P.underlying t = some (.slice e)) (h2 : P.info? e = some i) (h3 : i.zero = some z) (h4 : i.size = size) (h5 : i.bytes = bytes) (h6 : z.cells.size = size) (h7 : 0 < size)
 (v : Value) (n : Nat) (xs : List Value) (hs : a.eval s = v) (hown : w.ownsRow base e size v n xs)
 (ad : Addr) (m c : Nat) (news : List Value) (hx : a.eval x = .slice (some ad) m c) (hn : news.length = m * size) (hc : ∀ j u, news[j]? = some u → w.cell? (ad.add j) = some u) (h1c : ∀ u ∈ news, u.oneCell' = true)
 (b1 : n + m ≤ maxLen) (b2 : (n + m) * bytes ≤ 140737488355328) (hb : base ≤ w.heap.size)
 (hK : ∀ v' w', w'.ownsRow base e size v' (n + m) (xs ++ news) → w.grownBy w' v.ownBlock → (v'.ownBlock = v.ownBlock ∨ v'.ownBlock = some w.heap.size) → K (a.put o.dst v') w') :
 if Region.wanted o (yielded ops a.tmps) = true then Oper.wp P o a w K Q else E := by
 have hw : Region.wanted o (yielded ops a.tmps) = true := by simp [Region.wanted, hg]
 rw [if_pos hw]
 obtain ⟨v', w', hrun, r1, r2, _, r4⟩ := run_append_own_at (P := P) w base t o.type e i z size bytes h1 h2 h3 h4 h5 h6 h7 v n xs hown ad m c news hn hc h1c b1 b2 hb
 unfold Oper.wp
 simp [execOp, hop, resolve, invoke, builtin, hs, hx, hrun, Result.andThen]
 exact hK v' w' r1 r2 r4
theorem step_lk {P : Program} {ops : Array Oper} {o : Oper} {a : Act} {w : World} {K : Act → World → Prop} {Q : Exit → Act → World → Prop} {E : Prop} (hg : o.guard = none) (t : TypeId) (m x : Operand) (ok : Bool) (ho : o.op = Op.lookup t m x ok) (vm vx : Value) {r : Value}
 (hm : a.eval m = vm) (hx : a.eval x = vx) (hr : (Instr.lookup t vm vx ok).run P w = .ok r w) (h : K (a.put o.dst r) w) :
 if Region.wanted o (yielded ops a.tmps) = true then Oper.wp P o a w K Q else E := by
 have hw : Region.wanted o (yielded ops a.tmps) = true := by simp [Region.wanted, hg]
 rw [if_pos hw]
 unfold Oper.wp
 simp [execOp, ho, hm, hx, hr, Result.andThen]
 exact h
theorem info3 : (Tryz.prog.info? 3).map (fun i => (i.zero, i.size, i.bytes)) = some (some (.int .i64 0), 1, 8) := by kernel_rfl
theorem ShR.push {B bP : Nat} {rs : List R3} {rv : List Value} {pl : List (ByteArray × Value)} {u1 u2 u3 u4 : World} {x : R3} {V v v' : Value} {n : Nat} (R : ShR B rs rv pl u1) (X : RecV B u1 V x) (hA : Asc pl) (hv : (getK pl x.key).getD (.slice none 0 0) = v) (h12 : Below u1.heap.size u1 u2) (hs2 : B ≤ u2.heap.size)
 (h23 : u2.grownBy u3 v.ownBlock) (ho : u3.ownsRow B 3 1 v' n ((plc rs x.key).map (Value.int .i64) ++ [.int .i64 (rs.length : Nat)])) (hn : n = (plc rs x.key).length + 1) (hloc : v'.ownBlock = v.ownBlock ∨ v'.ownBlock = some u2.heap.size) (h34 : u3.grownBy u4 (some bP)) (hBP : B ≤ bP) {es : Array MapEntry} {ck : Nat} (hm : u3.heap[bP]? = some (.map es ck)) (hrl : rs.length ≤ 1048576) :
 ShR B (rs ++ [x]) (rv ++ [V]) (insK (x.key, v') (pl.filter fun p => !decide (p.1 = x.key))) u4 := by
 have O2 := ints_at R hv h12
 have R2 := R.below h12
 have X2 := X.kept (below_gb h12) (fun _ e => by cases e)
 obtain ⟨_, hget⟩ := getK_put hA x.key v'
 have hwf : (Lit.int .i64 ((rs.length : Nat) : Int)).wf = true := WalkArith.wf_i64 (by omega)
 have ho' : u3.ownsInts B 3 .i64 v' (plc rs x.key ++ [((rs.length : Nat) : Int)]) := O2.appended (by rw [← hn]; exact ho) hwf
 have nr : NoRow B u2 v.ownBlock := fun j e => by
  obtain ⟨h1, _, cur, h3⟩ := ints_row O2 e
  exact ⟨h1, fun cur' fr e => by rw [h3] at e; simp at e⟩
 have nrm : NoRow B u3 (some bP) := noRow_map hBP hm
 have nom : ∀ {u : Value} {zs : List Int}, u3.ownsInts B 3 .i64 u zs → u.ownBlock = none ∨ u.ownBlock ≠ some bP := fun h => .inr (ints_nomap h hm)
 have oth : ∀ k u, k ≠ x.key → getK pl k = some u → u.ownBlock = none ∨ u.ownBlock ≠ v.ownBlock := fun k u hk hu => by
  cases hq : getK pl x.key with
  | none =>
   rw [hq] at hv
   subst hv
   cases hb : u.ownBlock with
   | none => exact .inl rfl
   | some j => exact .inr (by simp [Value.ownBlock])
  | some y =>
   rw [hq] at hv
   subst hv
   exact R.apart k x.key u y hk hu hq
 have new : ∀ k u, getK pl k = some u → ∀ j, u.ownBlock = some j → j < u2.heap.size := fun k u hu j hj => (ints_row (R2.grp k u hu) hj).2.1
 refine ⟨by simp [R.len], fun i hi => ?_, fun k u hu => ?_, fun k hk => ?_, fun k k' u u' hne hu hu' => ?_, ?_⟩
 · rcases Nat.lt_or_ge i rs.length with h | h
   · have e1 : (rv ++ [V]).getD i undef = rv.getD i undef := by simp [List.getD, List.getElem?_append_left (show i < rv.length by rw [R.len]; exact h)]
     have e2 : (rs ++ [x]).getD i r3z = rs.getD i r3z := by simp [List.getD, List.getElem?_append_left h]
     rw [e1, e2]
     exact ((R2.recs i h).kept h23 nr).kept h34 nrm
   · obtain rfl : i = rs.length := by simp at hi; omega
     have e1 : (rv ++ [V]).getD rs.length undef = V := by simp [List.getD, ← R.len]
     have e2 : (rs ++ [x]).getD rs.length r3z = x := by simp [List.getD]
     rw [e1, e2]
     exact (X2.kept h23 nr).kept h34 nrm
 · rw [hget k] at hu
   rw [plc_snoc]
   by_cases hk : k = x.key
   · subst hk
     rw [if_pos rfl] at hu
     cases hu
     rw [if_pos rfl]
     exact ho'.kept h34 (nom ho')
   · rw [if_neg hk] at hu
     rw [if_neg (fun e => hk e.symm), List.append_nil]
     have h3 := (R2.grp k u hu).kept h23 (oth k u hk hu)
     exact h3.kept h34 (nom h3)
 · rw [hget k] at hk
   by_cases hk' : k = x.key
   · rw [if_pos hk'] at hk; cases hk
   · rw [if_neg hk'] at hk
     rw [plc_snoc, if_neg (fun e => hk' e.symm), R.non k hk, List.append_nil]
 · rw [hget k] at hu
   rw [hget k'] at hu'
   by_cases h1 : k = x.key
   · have h2 : k' ≠ x.key := fun e => hne (h1.trans e.symm)
     rw [if_pos h1] at hu
     rw [if_neg h2] at hu'
     cases hu
     rcases hloc with e | e
     · rw [e]
       rcases oth k' u' h2 hu' with h | h
       · cases hq : v.ownBlock with
         | none => exact .inl rfl
         | some j => exact .inr (by rw [h]; simp)
       · exact .inr (fun e => h e.symm)
     · refine .inr (fun e2 => ?_)
       have := new k' u' hu' _ (e2.symm.trans e)
       omega
   · rw [if_neg h1] at hu
     by_cases h2 : k' = x.key
     · rw [if_pos h2] at hu'
       cases hu'
       rcases hloc with e | e
       · rw [e]
         exact oth k u h1 hu
       · cases hq : u.ownBlock with
         | none => exact .inl rfl
         | some j =>
          refine .inr (fun e2 => ?_)
          have := new k u hu j hq
          rw [e] at e2
          cases e2
          omega
     · rw [if_neg h2] at hu'
       exact R.apart k k' u u' hne hu hu'
 · rw [(insK_perm _ _).length_eq]
   have := List.length_filter_le (fun p => !decide (p.1 = x.key)) pl
   have := R.pln
   simp
   omega
set_option maxHeartbeats 4000000 in
theorem c90 (B H bT bR bP : Nat) (W : Int) (l : List (ByteArray × Value)) (rs : List R3) (rv : List Value) (x : R3) (a : Option Addr) (c : Nat) (w : World) (hSh : Sh B H bT bR bP W l rs rv w) (hx : RecV B w (.agg #[.string x.key, .slice a x.gs.length c, .string x.out]) x) (hn : rs.length ≤ 1000) (hk : x.key.size ≤ 1048700) :
 Calls Tryz.prog 90 #[.pointer (some ⟨H, 0, none⟩), .agg #[.string x.key, .slice a x.gs.length c, .string x.out]] w fun e w' => e = .returned (.tuple #[]) ∧ Sh B H bT bR bP W l (rs ++ [x]) (rv ++ [.agg #[.string x.key, .slice a x.gs.length c, .string x.out]]) w' ∧ Below B w w' := by
 obtain ⟨pl, hC, hR⟩ := hSh
 have HL := hidI hR.len
 have HPL : Hid (pl.length < maxLen) := by show _ < _; have := hR.pln; unfold maxLen; omega
 have hrn : rv.length ≤ 1000 := by rw [HL.out]; exact hn
 have hHlt := hC.lt
 have hBH := hC.hH
 obtain ⟨i0, hi, hz0, hz1, hz2⟩ := info_parts' info3
 obtain ⟨v, hv⟩ : ∃ v, (getK pl x.key).getD (.slice none 0 0) = v := ⟨_, rfl⟩
 have HV := hidI hv
 obtain ⟨es, ck, hpw, hpF, hps, hpD⟩ := hC.pc
 have hbP : bP < w.heap.size := (Array.getElem?_eq_some_iff.1 hpw).1
 have HB1 : Hid ((plc rs x.key).length + 1 ≤ maxLen) := by show _ ≤ _; have := plc_len rs x.key; unfold maxLen; omega
 have HB2 : Hid (((plc rs x.key).length + 1) * 8 ≤ 140737488355328) := by show _ ≤ _; have := plc_len rs x.key; omega
 have hkm : x.key.size ≤ maxLen := by unfold maxLen; omega
 have HLK : Hid (∀ u : World, u.heap[bP]? = some (.map es ck) → (Instr.lookup 153 (.map (some bP)) (.string x.key) false).run Tryz.prog u = .ok v u) := fun u hu => by
  rw [← hv]
  exact look_S (n := pl.length) ⟨es, ck, hu, hpF, hps, hpD⟩ Tryz.underlying153 (by kernel_rfl) hkm
 have hB0 : Below w.heap.size w (w.alloc (.cells #[.string x.key, .slice a x.gs.length c, .string x.out] 82)) := (Below.refl _ _).alloc (Nat.le_refl _) _
 have sz0 : (w.alloc (.cells #[.string x.key, .slice a x.gs.length c, .string x.out] 82)).heap.size = w.heap.size + 1 := by simp
 have hp0 : (w.alloc (.cells #[.string x.key, .slice a x.gs.length c, .string x.out] 82)).heap[bP]? = some (.map es ck) := (hB0.block bP hbP).trans hpw
 have h67 : Hid (OfT (w.alloc (.cells #[.string x.key, .slice a x.gs.length c, .string x.out] 82)) w.heap.size 82) := hidI (ofT_new w #[.string x.key, .slice a x.gs.length c, .string x.out] 82)
 have C0 := hidI (hC.below hB0)
 have R0 := hidI (hR.below hB0)
 have X0 := hidI (hx.kept (below_gb hB0) (fun _ e => by cases e))
 have E0 : Hid (BlkAt (w.alloc (.cells #[.string x.key, .slice a x.gs.length c, .string x.out] 82)) w.heap.size [.string x.key, .slice a x.gs.length c, .string x.out]) := hidI (blk_new w [.string x.key, .slice a x.gs.length c, .string x.out] 82)
 have f2 := C0.out.blk 2 _ rfl
 have f3 := C0.out.blk 3 _ rfl
 have e0 := E0.out 0 _ rfl
 have e1 := E0.out 1 _ rfl
 have e2 := E0.out 2 _ rfl
 obtain ⟨es1, ck1, hmap1⟩ := mp_isMap (hC.rc)
 replace hmap1 := (hB0.block bR (Array.getElem?_eq_some_iff.1 hmap1).1).trans hmap1
 have hne0 : some w.heap.size ≠ some bR := fun e => cells_ne_map e0 hmap1 (Option.some.inj e)
 have hneH : some H ≠ some bR := fun e => cells_ne_map (C0.out.blk 0 _ rfl) hmap1 (Option.some.inj e)
 have hneP : some bP ≠ some bR := fun e => hC.n3 (Option.some.inj e).symm
 clear hC hR hx hv hpw hpF hps hpD
 go_enter Tryz.func90, Tryz.ntmps90
 go_wp2_with (at_len; refine wpList_len_own _ rfl _ 152 rfl 3 82 Tryz.underlying152 tokR bR _ (intD rv) rfl C0.out.rc ?_; rw [intD_size])
 rename_i K0 hK0
 generalize (w.alloc (.cells #[.string x.key, .slice a x.gs.length c, .string x.out] 82)) = u0 at *
 have CD := hidI (C0.out.below (Below.refl _ _).drew)
 have RD := hidI (R0.out.below (Below.refl _ _).drew)
 have XD := hidI (X0.out.kept (below_gb (w' := u0.drew) (Below.refl _ _).drew) (fun _ e => by cases e))
 have ED : Hid (BlkAt u0.drew w.heap.size [.string x.key, .slice a x.gs.length c, .string x.out]) := hidI (E0.out.below (Below.refl (w.heap.size + 1) _).drew (by omega))
 have HN : Hid (rv.length < maxLen) := by show rv.length < maxLen; unfold maxLen; omega
 have hrn2 : rv.length ≤ 1048576 := by omega
 have HN2 := HPL
 refine wp_region_held_drew (S := (fun u => u.cell? ⟨H, 2, none⟩ = some (.map (some bR)) ∧ u.cell? ⟨w.heap.size, 0, none⟩ = some (.string x.key) ∧ u.cell? ⟨w.heap.size, 1, none⟩ = some (.slice a x.gs.length c) ∧ u.cell? ⟨w.heap.size, 2, none⟩ = some (.string x.out))) (by kernel_rfl) ?_ (fun hHeld => ?_)
 · exact ⟨f2, e0, e1, e2⟩
 refine tk (i := 0) (oi := ⟨some 10, .move (.tmp 0), 97, _, _, none⟩) (v := ?_) rfl (by kernel_rfl) rfl ?e hHeld ?_
 case e => intro wq hSw; (try dsimp only at hSw); go_simp; try with_reducible rfl
 try simp only [qq]
 refine tk (i := 1) (oi := ⟨some 11, .nilCheck (.tmp 10), 0, _, _, none⟩) (v := ?_) rfl (by kernel_rfl) rfl ?e hHeld ?_
 case e => intro wq hSw; (try dsimp only at hSw); go_simp; try with_reducible rfl
 try simp only [qq]
 refine tk (i := 2) (oi := ⟨some 12, .fieldAddr 155 (.tmp 11) 2, 0, _, _, none⟩) (v := ?_) rfl (by kernel_rfl) rfl ?e hHeld ?_
 case e => intro wq hSw; (try dsimp only at hSw); go_simp; try with_reducible rfl
 try simp only [qq]
 refine tk (i := 3) (oi := ⟨some 13, .load 152 (.tmp 12), 152, _, _, none⟩) (v := ?_) rfl (by kernel_rfl) rfl ?e hHeld ?_
 case e => intro wq hSw; (try dsimp only at hSw); go_simp; try with_reducible rfl
 try simp only [qq]
 refine tk (i := 4) (oi := ⟨some 14, .move (.tmp 4), 3, _, _, none⟩) (v := ?_) rfl (by kernel_rfl) rfl ?e hHeld ?_
 case e => intro wq hSw; (try dsimp only at hSw); go_simp; try with_reducible rfl
 try simp only [qq]
 refine tk (i := 5) (oi := ⟨some 15, .load 82 (.tmp 3), 82, _, _, none⟩) (v := ?_) rfl (by kernel_rfl) rfl ?e hHeld ?_
 case e => intro wq hSw; (try dsimp only at hSw); go_simp; try with_reducible rfl
 try simp only [qq]
 refine rd (i := 6) (o := ⟨none, .mapUpdate 152 (.tmp 13) (.tmp 14) (.tmp 15), 0, _, _, none⟩) rfl (by kernel_rfl) (fun K hK => ?_)
 refine step_upI (vs := rv) (vv := .agg #[.string x.key, .slice a x.gs.length c, .string x.out]) rfl 152 (.tmp 13) (.tmp 14) (.tmp 15) rfl rfl rfl rfl CD.out.rc Tryz.underlying152 HN.out hrn2 rfl ?_
 intro u1 hm1 hg1
 have HR1 : Hid (some w.heap.size ≠ some bR ∧ some H ≠ some bR ∧ some bP ≠ some bR) := ⟨hne0, hneH, hneP⟩
 have C1 := hidI (CD.out.upR hg1 hm1)
 have R1 := hidI (RD.out.map hg1 CD.out.hR hmap1)
 have X1 := hidI (XD.out.kept hg1 (noRow_map CD.out.hR hmap1))
 have B1 : Below B u0 u1 := ((Below.refl B u0).drew).trans (gb_below (w := u0.drew) hg1 (fun j e => by cases e; exact CD.out.hR) (by show B ≤ u0.heap.size; omega))
 have T1 := hidI ((h67.out.below (Below.refl (w.heap.size + 1) u0).drew (by omega)).kept hg1 hne0)
 have E1 := hidI (blk_kept ED.out hg1 (by show w.heap.size < u0.heap.size; omega) hne0)
 have sz1 : u0.heap.size ≤ u1.heap.size := hg1.size
 have g2 := C1.out.blk 2 _ rfl
 have g3 := C1.out.blk 3 _ rfl
 have g0 := E1.out 0 _ rfl
 have g1 := E1.out 1 _ rfl
 have g4 := E1.out 2 _ rfl
 have hp1 : u1.heap[bP]? = some (.map es ck) := (hg1.block bP (by show bP < u0.heap.size; omega) hneP).trans hp0
 clear hHeld hm1 hg1
 refine hK.out _ _ ⟨g2, g0, g1, g4⟩ (fun hHeld => ?_)
 clear hK K hHeld
 try simp only [qq]
 refine wpAnyH_done (by kernel_rfl) ?_ _
 refine hK0 _ _ ?_
 clear hK0
 go_wp2_with fail
 refine wp_region_held_drew (S := (fun u => u.cell? ⟨H, 3, none⟩ = some (.map (some bP)) ∧ u.cell? ⟨w.heap.size, 0, none⟩ = some (.string x.key))) (by kernel_rfl) ?_ (fun hHeld => ?_)
 · exact ⟨g3, g0⟩
 refine tk (i := 0) (oi := ⟨some 16, .move (.tmp 0), 97, _, _, none⟩) (v := ?_) rfl (by kernel_rfl) rfl ?e hHeld ?_
 case e => intro wq hSw; (try dsimp only at hSw); go_simp; try with_reducible rfl
 try simp only [qq]
 refine tk (i := 1) (oi := ⟨some 17, .nilCheck (.tmp 16), 0, _, _, none⟩) (v := ?_) rfl (by kernel_rfl) rfl ?e hHeld ?_
 case e => intro wq hSw; (try dsimp only at hSw); go_simp; try with_reducible rfl
 try simp only [qq]
 refine tk (i := 2) (oi := ⟨some 18, .fieldAddr 155 (.tmp 17) 3, 0, _, _, none⟩) (v := ?_) rfl (by kernel_rfl) rfl ?e hHeld ?_
 case e => intro wq hSw; (try dsimp only at hSw); go_simp; try with_reducible rfl
 try simp only [qq]
 refine tk (i := 3) (oi := ⟨some 19, .load 153 (.tmp 18), 153, _, _, none⟩) (v := ?_) rfl (by kernel_rfl) rfl ?e hHeld ?_
 case e => intro wq hSw; (try dsimp only at hSw); go_simp; try with_reducible rfl
 try simp only [qq]
 refine tk (i := 4) (oi := ⟨some 20, .fieldAddr 82 (.tmp 3) 0, 0, _, _, none⟩) (v := ?_) rfl (by kernel_rfl) rfl ?e hHeld ?_
 case e => intro wq hSw; (try dsimp only at hSw); go_simp; try with_reducible rfl
 try simp only [qq]
 refine tk (i := 5) (oi := ⟨some 21, .load 9 (.tmp 20), 9, _, _, none⟩) (v := ?_) rfl (by kernel_rfl) rfl ?e hHeld ?_
 case e => intro wq hSw; (try dsimp only at hSw); go_simp; try with_reducible rfl
 try simp only [qq]
 refine tk (i := 6) (oi := ⟨some 22, .move (.tmp 0), 97, _, _, none⟩) (v := ?_) rfl (by kernel_rfl) rfl ?e hHeld ?_
 case e => intro wq hSw; (try dsimp only at hSw); go_simp; try with_reducible rfl
 try simp only [qq]
 refine tk (i := 7) (oi := ⟨some 23, .nilCheck (.tmp 22), 0, _, _, none⟩) (v := ?_) rfl (by kernel_rfl) rfl ?e hHeld ?_
 case e => intro wq hSw; (try dsimp only at hSw); go_simp; try with_reducible rfl
 try simp only [qq]
 refine tk (i := 8) (oi := ⟨some 24, .fieldAddr 155 (.tmp 23) 3, 0, _, _, none⟩) (v := ?_) rfl (by kernel_rfl) rfl ?e hHeld ?_
 case e => intro wq hSw; (try dsimp only at hSw); go_simp; try with_reducible rfl
 try simp only [qq]
 refine tk (i := 9) (oi := ⟨some 25, .load 153 (.tmp 24), 153, _, _, none⟩) (v := ?_) rfl (by kernel_rfl) rfl ?e hHeld ?_
 case e => intro wq hSw; (try dsimp only at hSw); go_simp; try with_reducible rfl
 try simp only [qq]
 refine tk (i := 10) (oi := ⟨some 26, .fieldAddr 82 (.tmp 3) 0, 0, _, _, none⟩) (v := ?_) rfl (by kernel_rfl) rfl ?e hHeld ?_
 case e => intro wq hSw; (try dsimp only at hSw); go_simp; try with_reducible rfl
 try simp only [qq]
 refine tk (i := 11) (oi := ⟨some 27, .load 9 (.tmp 26), 9, _, _, none⟩) (v := ?_) rfl (by kernel_rfl) rfl ?e hHeld ?_
 case e => intro wq hSw; (try dsimp only at hSw); go_simp; try with_reducible rfl
 try simp only [qq]
 refine tk (i := 13) (oi := ⟨some 29, .move (.tmp 4), 3, _, _, none⟩) (v := ?_) rfl (by kernel_rfl) rfl ?e hHeld ?_
 case e => intro wq hSw; (try dsimp only at hSw); go_simp; try with_reducible rfl
 try simp only [qq]
 refine wpAnyH_ready (rs := [12, 14]) (by kernel_rfl) (by simp) ?_
 refine AllReadyH.cons (o := ⟨some 28, .lookup 153 (.tmp 25) (.tmp 27) false, 160, _, _, none⟩) rfl (fun K hK => ?_) (AllReadyH.cons (o := ⟨some 30, .buildSlice 160 1 #[(0, .tmp 29)], 160, _, _, none⟩) rfl (fun K hK => ?_) AllReadyH.nil)
 · refine step_lk rfl 153 (.tmp 25) (.tmp 27) false rfl (.map (some bP)) (.string x.key) rfl rfl (HLK.out _ hp1) ?_
   clear hHeld
   refine hK.out _ _ ⟨g3, g0⟩ (fun hHeld => ?_)
   clear hK K
   try simp only [qq]
   refine rd (i := 14) (o := ⟨some 30, .buildSlice 160 1 #[(0, .tmp 29)], 160, _, _, none⟩) rfl (by kernel_rfl) (fun K hK => ?_)
   go_simp
   have B2 : Below u1.heap.size u1 ((u1.alloc (.cells #[.int .i64 rv.length] 3)).drew) := ((Below.refl _ _).alloc (Nat.le_refl _) _).drew
   have k3 := (B2.cell (p := ⟨H, 3, none⟩) (show H < u1.heap.size by omega)).trans g3
   have k0 := (B2.cell (p := ⟨w.heap.size, 0, none⟩) (show w.heap.size < u1.heap.size by omega)).trans g0
   have hp2 := (B2.block bP (by omega)).trans hp1
   have c1 : ∀ j u, [Value.int .i64 rv.length][j]? = some u → ((u1.alloc (.cells #[.int .i64 rv.length] 3)).drew).cell? ((⟨u1.heap.size, 0, none⟩ : Addr).add j) = some u := fun j u h => cell_one_new u1 (.int .i64 rv.length) 3 j u h
   have sz2 : ((u1.alloc (.cells #[.int .i64 rv.length] 3)).drew).heap.size = u1.heap.size + 1 := by simp
   clear hHeld
   refine hK.out _ _ ⟨k3, k0⟩ (fun hHeld => ?_)
   clear hK K
   try simp only [qq]
   have O2' := hidI (ints_at R1.out HV.out B2)
   have C2 := hidI (C1.out.below B2)
   generalize ((u1.alloc (.cells #[.int .i64 rv.length] 3)).drew) = u2 at *
   refine rd (i := 15) (o := ⟨some 31, .call ⟨.builtin .append, #[.tmp 28, .tmp 30], #[160, 160]⟩, 160, _, _, none⟩) rfl (by kernel_rfl) (fun K hK => ?_)
   refine step_app_at rfl (.tmp 28) (.tmp 30) 160 rfl B 3 i0 (.int .i64 0) 1 8 Tryz.underlying160 hi hz0 hz1 hz2 rfl (by decide) v _ _ rfl O2'.out.1 ⟨u1.heap.size, 0, none⟩ 1 1 [.int .i64 rv.length] rfl rfl c1 (by simp [Value.oneCell']) HB1.out HB2.out (by omega) ?_
   intro v' u3 ho3 hg3 hl3
   have hnb : v.ownBlock ≠ some bP := ints_nomap O2'.out hp2
   have T2 := hidI (T1.out.below B2 (by omega))
   have C3 := hidI (C2.out.kept hg3 (ints_noT O2'.out C2.out.ty (by decide)) (ints_nomp O2'.out C2.out.tx) (ints_nomp O2'.out C2.out.rc) (ints_nomp O2'.out C2.out.pc))
   have sz3 := hg3.size
   have hp3 : u3.heap[bP]? = some (.map es ck) := (hg3.block bP (by omega) (fun e => hnb e.symm)).trans hp2
   have m3 := C3.out.blk 3 _ rfl
   have m0 := (blk_kept (E1.out.below B2 (by omega)) hg3 (by omega) (ints_noT O2'.out T2.out (by decide))) 0 _ rfl
   clear hHeld
   refine hK.out _ _ ⟨m3, m0⟩ (fun hHeld => ?_)
   clear hK K
   try simp only [qq]
   refine rd (i := 16) (o := ⟨none, .mapUpdate 153 (.tmp 19) (.tmp 21) (.tmp 31), 0, _, _, none⟩) rfl (by kernel_rfl) (fun K hK => ?_)
   refine step_upS (l := pl) (k := x.key) (vv := v') rfl 153 (.tmp 19) (.tmp 21) (.tmp 31) rfl rfl rfl rfl C3.out.pc Tryz.underlying153 HN2.out hkm rfl ?_
   intro u4 hm4 hg4
   rw [mapD_put'] at hm4
   replace hm4 := mp_tight hm4
   rw [mapD_size] at hm4
   have C4 := hidI (C3.out.upP hg4 hm4 (getK_put C3.out.pa x.key v').1)
   have R4 := hidI (ShR.push R1.out X1.out C3.out.pa HV.out B2 (by omega) hg3 (by rw [← HL.out]; exact ho3) rfl hl3 hg4 C3.out.hP hp3 (by omega))
   have B4 : Below B w u4 := ((hB0.mono (by omega)).trans B1).trans ((B2.mono (by omega)).trans ((gb_below hg3 (fun j e => (ints_row O2'.out e).1) (by omega)).trans (gb_below hg4 (fun j e => by cases e; exact C3.out.hP) (by omega))))
   have n3 := C4.out.blk 3 _ rfl
   have n0 := (blk_kept (blk_kept (E1.out.below B2 (by omega)) hg3 (by omega) (ints_noT O2'.out T2.out (by decide))) hg4 (by omega) (fun e => cells_ne_map m0 hp3 (Option.some.inj e))) 0 _ rfl
   clear hHeld
   refine hK.out _ _ ⟨n3, n0⟩ (fun hHeld => ?_)
   clear hK K
   try simp only [qq]
   refine wpAnyH_done (by kernel_rfl) ?_ _
   go_end0
   exact ⟨rfl, ⟨_, C4.out, R4.out⟩, B4⟩
 · go_simp
   have B2 : Below u1.heap.size u1 ((u1.alloc (.cells #[.int .i64 rv.length] 3)).drew) := ((Below.refl _ _).alloc (Nat.le_refl _) _).drew
   have k3 := (B2.cell (p := ⟨H, 3, none⟩) (show H < u1.heap.size by omega)).trans g3
   have k0 := (B2.cell (p := ⟨w.heap.size, 0, none⟩) (show w.heap.size < u1.heap.size by omega)).trans g0
   have hp2 := (B2.block bP (by omega)).trans hp1
   have c1 : ∀ j u, [Value.int .i64 rv.length][j]? = some u → ((u1.alloc (.cells #[.int .i64 rv.length] 3)).drew).cell? ((⟨u1.heap.size, 0, none⟩ : Addr).add j) = some u := fun j u h => cell_one_new u1 (.int .i64 rv.length) 3 j u h
   have sz2 : ((u1.alloc (.cells #[.int .i64 rv.length] 3)).drew).heap.size = u1.heap.size + 1 := by simp
   clear hHeld
   refine hK.out _ _ ⟨k3, k0⟩ (fun hHeld => ?_)
   clear hK K
   try simp only [qq]
   have O2' := hidI (ints_at R1.out HV.out B2)
   have C2 := hidI (C1.out.below B2)
   generalize ((u1.alloc (.cells #[.int .i64 rv.length] 3)).drew) = u2 at *
   refine rd (i := 12) (o := ⟨some 28, .lookup 153 (.tmp 25) (.tmp 27) false, 160, _, _, none⟩) rfl (by kernel_rfl) (fun K hK => ?_)
   refine step_lk rfl 153 (.tmp 25) (.tmp 27) false rfl (.map (some bP)) (.string x.key) rfl rfl (HLK.out _ hp2) ?_
   clear hHeld
   refine hK.out _ _ ⟨k3, k0⟩ (fun hHeld => ?_)
   clear hK K
   try simp only [qq]
   refine rd (i := 15) (o := ⟨some 31, .call ⟨.builtin .append, #[.tmp 28, .tmp 30], #[160, 160]⟩, 160, _, _, none⟩) rfl (by kernel_rfl) (fun K hK => ?_)
   refine step_app_at rfl (.tmp 28) (.tmp 30) 160 rfl B 3 i0 (.int .i64 0) 1 8 Tryz.underlying160 hi hz0 hz1 hz2 rfl (by decide) v _ _ rfl O2'.out.1 ⟨u1.heap.size, 0, none⟩ 1 1 [.int .i64 rv.length] rfl rfl c1 (by simp [Value.oneCell']) HB1.out HB2.out (by omega) ?_
   intro v' u3 ho3 hg3 hl3
   have hnb : v.ownBlock ≠ some bP := ints_nomap O2'.out hp2
   have T2 := hidI (T1.out.below B2 (by omega))
   have C3 := hidI (C2.out.kept hg3 (ints_noT O2'.out C2.out.ty (by decide)) (ints_nomp O2'.out C2.out.tx) (ints_nomp O2'.out C2.out.rc) (ints_nomp O2'.out C2.out.pc))
   have sz3 := hg3.size
   have hp3 : u3.heap[bP]? = some (.map es ck) := (hg3.block bP (by omega) (fun e => hnb e.symm)).trans hp2
   have m3 := C3.out.blk 3 _ rfl
   have m0 := (blk_kept (E1.out.below B2 (by omega)) hg3 (by omega) (ints_noT O2'.out T2.out (by decide))) 0 _ rfl
   clear hHeld
   refine hK.out _ _ ⟨m3, m0⟩ (fun hHeld => ?_)
   clear hK K
   try simp only [qq]
   refine rd (i := 16) (o := ⟨none, .mapUpdate 153 (.tmp 19) (.tmp 21) (.tmp 31), 0, _, _, none⟩) rfl (by kernel_rfl) (fun K hK => ?_)
   refine step_upS (l := pl) (k := x.key) (vv := v') rfl 153 (.tmp 19) (.tmp 21) (.tmp 31) rfl rfl rfl rfl C3.out.pc Tryz.underlying153 HN2.out hkm rfl ?_
   intro u4 hm4 hg4
   rw [mapD_put'] at hm4
   replace hm4 := mp_tight hm4
   rw [mapD_size] at hm4
   have C4 := hidI (C3.out.upP hg4 hm4 (getK_put C3.out.pa x.key v').1)
   have R4 := hidI (ShR.push R1.out X1.out C3.out.pa HV.out B2 (by omega) hg3 (by rw [← HL.out]; exact ho3) rfl hl3 hg4 C3.out.hP hp3 (by omega))
   have B4 : Below B w u4 := ((hB0.mono (by omega)).trans B1).trans ((B2.mono (by omega)).trans ((gb_below hg3 (fun j e => (ints_row O2'.out e).1) (by omega)).trans (gb_below hg4 (fun j e => by cases e; exact C3.out.hP) (by omega))))
   have n3 := C4.out.blk 3 _ rfl
   have n0 := (blk_kept (blk_kept (E1.out.below B2 (by omega)) hg3 (by omega) (ints_noT O2'.out T2.out (by decide))) hg4 (by omega) (fun e => cells_ne_map m0 hp3 (Option.some.inj e))) 0 _ rfl
   clear hHeld
   refine hK.out _ _ ⟨n3, n0⟩ (fun hHeld => ?_)
   clear hK K
   try simp only [qq]
   refine wpAnyH_done (by kernel_rfl) ?_ _
   go_end0
   exact ⟨rfl, ⟨_, C4.out, R4.out⟩, B4⟩
end Go.Proofs.YtboojefodbjbcaaGreatDoor
