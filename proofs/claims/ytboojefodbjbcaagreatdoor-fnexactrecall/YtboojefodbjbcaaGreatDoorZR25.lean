import Derived.Test.YtboojefodbjbcaaGreatDoorZR00
import Derived.Test.YtboojefodbjbcaaGreatDoorZR24
import Derived.Deep.RegionHeld3
import Derived.Test.YtboojefodbjbcaaGreatDoorProg
import Derived.Maps.OwnSet
import Derived.Maps.Ext
import Derived.Sort.KeysCollected
import Derived.Lib.SlKeysI
import Derived.Lib.SlMapMerge
namespace Go.Proofs.YtboojefodbjbcaaGreatDoor
open Go.RowKit
set_option maxRecDepth 100000
set_option linter.unusedVariables false
theorem BlkAt.fill0 {u : World} {B : Nat} {old vs : List Value} (h : BlkAt u B old) (hl : old.length = vs.length) : BlkAt (Go.Proofs.YtboojefodbjbcaaGreatDoor.fill u B 0 vs) B vs := by
 have k := BlkAt.fill vs [] old [] 0 (by simpa using h) hl rfl
 simpa using k
theorem heap_fill {B : Nat} (k : Nat) (hne : k ≠ B) (vs : List Value) : ∀ {u : World} (j : Nat), (fill u B j vs).heap[k]? = u.heap[k]? := by
 induction vs with
 | nil => intro u j; rfl
 | cons v vs ih =>
  intro u j
  exact (ih (j + 1)).trans (Below.heap_setCell _ _ _ _ hne)
theorem st_over {u : World} {B N : Nat} {old vs : List Value} {P : World → Prop} (hl : old.length = vs.length) (hB : BlkAt u B old) (hO : OpnAt u B) (hN : N ≤ B) (h : ∀ u', Below N u u' → BlkAt u' B vs → OpnAt u' B → u.heap.size ≤ u'.heap.size → (∀ k, k < u.heap.size → k ≠ B → u'.heap[k]? = u.heap[k]?) → P u') : P (fill u B 0 vs) :=
 h _ (below_fill hN _ _ (Below.refl _ _)) (BlkAt.fill0 hB hl) (OpnAt.fill _ _ hO) (by rw [size_fill]; exact Nat.le_refl _) (fun k _ hne => heap_fill k hne _ _)
theorem blk_some {u : World} {B : Nat} {old vs : List Value} (hB : BlkAt u B old) (hl : old.length = vs.length) : ∀ i, i < vs.length → (u.cell? ⟨B, 0 + i, none⟩).isSome = true := fun i hi => by
 rw [Nat.zero_add, hB i _ (List.getElem?_eq_getElem (by omega))]
 rfl
theorem step_store_blk {P : Program} {ops : Array Oper} {o : Oper} {a : Act} {w : World} {K : Act → World → Prop} {Q : Exit → Act → World → Prop} {E : Prop} (hg : o.guard = none) (ty : TypeId) (x y : Operand) (ho : o.op = .store ty x y)
 (B j : Nat) (hx : a.eval x = .pointer (some ⟨B, j, none⟩)) (vs : List Value) (hy : a.eval y = .agg vs.toArray) (hc : ∀ i, i < vs.length → (w.cell? ⟨B, j + i, none⟩).isSome = true) (hf : OpnAt w B) (h1 : ∀ v ∈ vs, v.oneCell' = true)
 (hi : (P.info? ty).map (·.size) = some vs.length) (hdst : o.dst = none) (h : K a (fill w B j vs)) :
 if Region.wanted o (yielded ops a.tmps) = true then Oper.wp P o a w K Q else E := by
 have hw : Region.wanted o (yielded ops a.tmps) = true := by simp [Region.wanted, hg]
 rw [if_pos hw]
 unfold Oper.wp execOp
 simp only [ho, hx, hy, Instr.storeAt, Instr.sureAddr, Sem.run_bind, Sem.run_pure, Result.andThen_ok, run_storeVar_blk w B j ty vs hc hf h1 hi]
 first
  | exact h
  | (simp only [Oper.upon]; exact h)
  | (simp only [Oper.upon, hdst]; exact h)
set_option maxHeartbeats 2000000 in
theorem c117 (x : L4) (W : Int) (H : Nat) (w : World) (hx : x.tx.size ≤ 1048600) (hH : H < w.heap.size) (hW : w.cell? ⟨H, 0, none⟩ = some (.int .i64 W)) (hg : (glT x).size ≤ 1048700) :
 Calls Tryz.prog 117 #[.pointer (some ⟨H, 0, none⟩), .agg #[.bool x.has, .string x.nm, .int .i64 x.cd, .string x.tx]] w fun e w' => e = .returned (.agg #[.bool x.has, .string x.nm, .string (sumS (glT x) W)]) ∧ Below w.heap.size w w' := by
 replace hx : x.tx.size ≤ 1048700 := by omega
 have hB0 : Below w.heap.size w ((w.alloc (.cells #[.bool x.has, .string x.nm, .int .i64 x.cd, .string x.tx] 108)).alloc (.cells #[.bool false, .string ⟨#[]⟩, .string ⟨#[]⟩] 127)) := ((Below.refl _ _).alloc (Nat.le_refl _) _).alloc (by simp) _
 have hz : ((w.alloc (.cells #[.bool x.has, .string x.nm, .int .i64 x.cd, .string x.tx] 108)).alloc (.cells #[.bool false, .string ⟨#[]⟩, .string ⟨#[]⟩] 127)).heap.size = w.heap.size + 2 := by simp
 have hV0 := (hB0.cell (p := ⟨H, 0, none⟩) hH).trans hW
 have ZA := hidI ((blk_new w [.bool x.has, .string x.nm, .int .i64 x.cd, .string x.tx] 108).below ((Below.refl _ _).alloc (Nat.le_refl _) (.cells #[.bool false, .string ⟨#[]⟩, .string ⟨#[]⟩] 127)) (by simp))
 have ZB : Hid (BlkAt ((w.alloc (.cells #[.bool x.has, .string x.nm, .int .i64 x.cd, .string x.tx] 108)).alloc (.cells #[.bool false, .string ⟨#[]⟩, .string ⟨#[]⟩] 127)) (w.heap.size + 1) [.bool false, .string ⟨#[]⟩, .string ⟨#[]⟩]) := fun j x hx => by simp [go_sem, hx]
 have FB : Hid (OpnAt ((w.alloc (.cells #[.bool x.has, .string x.nm, .int .i64 x.cd, .string x.tx] 108)).alloc (.cells #[.bool false, .string ⟨#[]⟩, .string ⟨#[]⟩] 127)) (w.heap.size + 1)) := fun j => by simp [go_sem]
 go_enter Tryz.func117, Tryz.ntmps117
 go_wp2_with fail
 generalize ((w.alloc (.cells #[.bool x.has, .string x.nm, .int .i64 x.cd, .string x.tx] 108)).alloc (.cells #[.bool false, .string ⟨#[]⟩, .string ⟨#[]⟩] 127)) = V at *
 have hVd : Below V.heap.size V V.drew := (Below.refl _ _).drew
 have p0d := (ZA.out.below hVd (by omega)) 0 _ rfl
 have p1d := (ZA.out.below hVd (by omega)) 1 _ rfl
 have p2d := (ZA.out.below hVd (by omega)) 2 _ rfl
 have p3d := (ZA.out.below hVd (by omega)) 3 _ rfl
 have pHd := (hVd.cell (p := ⟨H, 0, none⟩) (show H < V.heap.size by omega)).trans hV0
 refine wp_region_held_drew (S := (fun u => u.cell? ⟨w.heap.size, 0, none⟩ = some (.bool x.has) ∧ u.cell? ⟨w.heap.size, 1, none⟩ = some (.string x.nm) ∧ u.cell? ⟨w.heap.size, 2, none⟩ = some (.int .i64 x.cd) ∧ u.cell? ⟨w.heap.size, 3, none⟩ = some (.string x.tx) ∧ u.cell? ⟨H, 0, none⟩ = some (.int .i64 W))) (by kernel_rfl) ?_ (fun hHeld => ?_)
 · exact ⟨p0d, p1d, p2d, p3d, pHd⟩
 refine tk (i := 0) (oi := ⟨some 5, .fieldAddr 108 (.tmp 3) 0, 0, _, _, none⟩) (v := ?_) rfl (by kernel_rfl) rfl ?e hHeld ?_
 case e => intro wq hSw; (try dsimp only at hSw); go_simp; try with_reducible rfl
 try simp only [qq]
 refine tk (i := 1) (oi := ⟨some 6, .load 4 (.tmp 5), 4, _, _, none⟩) (v := ?_) rfl (by kernel_rfl) rfl ?e hHeld ?_
 case e => intro wq hSw; (try dsimp only at hSw); go_simp; try with_reducible rfl
 try simp only [qq]
 refine tk (i := 2) (oi := ⟨some 7, .fieldAddr 108 (.tmp 3) 1, 0, _, _, none⟩) (v := ?_) rfl (by kernel_rfl) rfl ?e hHeld ?_
 case e => intro wq hSw; (try dsimp only at hSw); go_simp; try with_reducible rfl
 try simp only [qq]
 refine tk (i := 3) (oi := ⟨some 8, .load 9 (.tmp 7), 9, _, _, none⟩) (v := ?_) rfl (by kernel_rfl) rfl ?e hHeld ?_
 case e => intro wq hSw; (try dsimp only at hSw); go_simp; try with_reducible rfl
 try simp only [qq]
 refine tk (i := 4) (oi := ⟨some 9, .load 108 (.tmp 3), 108, _, _, none⟩) (v := ?_) rfl (by kernel_rfl) rfl ?e hHeld ?_
 case e => intro wq hSw; (try dsimp only at hSw); go_simp; try with_reducible rfl
 try simp only [qq]
 refine tk (i := 6) (oi := ⟨some 11, .move (.tmp 0), 97, _, _, none⟩) (v := ?_) rfl (by kernel_rfl) rfl ?e hHeld ?_
 case e => intro wq hSw; (try dsimp only at hSw); go_simp; try with_reducible rfl
 try simp only [qq]
 refine tk (i := 7) (oi := ⟨some 12, .nilCheck (.tmp 11), 0, _, _, none⟩) (v := ?_) rfl (by kernel_rfl) rfl ?e hHeld ?_
 case e => intro wq hSw; (try dsimp only at hSw); go_simp; try with_reducible rfl
 try simp only [qq]
 refine tk (i := 8) (oi := ⟨some 13, .fieldAddr 155 (.tmp 12) 0, 0, _, _, none⟩) (v := ?_) rfl (by kernel_rfl) rfl ?e hHeld ?_
 case e => intro wq hSw; (try dsimp only at hSw); go_simp; try with_reducible rfl
 try simp only [qq]
 refine tk (i := 9) (oi := ⟨some 14, .load 3 (.tmp 13), 3, _, _, none⟩) (v := ?_) rfl (by kernel_rfl) rfl ?e hHeld ?_
 case e => intro wq hSw; (try dsimp only at hSw); go_simp; try with_reducible rfl
 try simp only [qq]
 refine rd (i := 5) (o := ⟨some 10, .call ⟨.value (.func 134), #[.tmp 9], #[108]⟩, 9, _, _, none⟩) rfl (by kernel_rfl) (fun K hK => ?_)
 go_simp
 refine (c134 x V.drew hx).mono ?_
 rintro e w1 ⟨rfl, hb1⟩
 have h1 := hVd.trans (hb1.mono hVd.size)
 clear hb1
 have p0a := (ZA.out.below h1 (by omega)) 0 _ rfl
 have p1a := (ZA.out.below h1 (by omega)) 1 _ rfl
 have p2a := (ZA.out.below h1 (by omega)) 2 _ rfl
 have p3a := (ZA.out.below h1 (by omega)) 3 _ rfl
 have pHa := (h1.cell (p := ⟨H, 0, none⟩) (show H < V.heap.size by omega)).trans hV0
 go_simp
 clear hHeld
 refine hK.out _ _ ?_ (fun hHeld => ?_)
 · exact ⟨p0a, p1a, p2a, p3a, pHa⟩
 clear hK K
 try simp only [qq]
 refine rd (i := 10) (o := ⟨some 15, .call ⟨.value (.func 89), #[.tmp 10, .tmp 14], #[9, 3]⟩, 9, _, _, none⟩) rfl (by kernel_rfl) (fun K hK => ?_)
 go_simp
 refine (c89 (glT x) W w1 hg).mono ?_
 rintro e w2 ⟨rfl, hb2⟩
 have h2 := h1.trans (hb2.mono h1.size)
 clear hb2
 have p0b := (ZA.out.below h2 (by omega)) 0 _ rfl
 have p1b := (ZA.out.below h2 (by omega)) 1 _ rfl
 have p2b := (ZA.out.below h2 (by omega)) 2 _ rfl
 have p3b := (ZA.out.below h2 (by omega)) 3 _ rfl
 have pHb := (h2.cell (p := ⟨H, 0, none⟩) (show H < V.heap.size by omega)).trans hV0
 go_simp
 clear hHeld
 refine hK.out _ _ ?_ (fun hHeld => ?_)
 · exact ⟨p0b, p1b, p2b, p3b, pHb⟩
 clear hK K
 try simp only [qq]
 refine tk (i := 11) (oi := ⟨some 16, .build 127 #[(0, .tmp 6), (1, .tmp 8), (2, .tmp 15)], 127, _, _, none⟩) (v := ?_) rfl (by kernel_rfl) rfl ?e hHeld ?_
 case e => intro wq hSw; (try dsimp only at hSw); go_simp; try with_reducible rfl
 try simp only [qq]
 refine rd (i := 12) (o := ⟨none, .store 127 (.tmp 4) (.tmp 16), 0, _, _, none⟩) rfl (by kernel_rfl) (fun K hK => ?_)
 have Z2 := hidI (ZB.out.below h2 (by omega))
 have F2 := hidI (FB.out.below h2 (by omega))
 refine step_store_blk rfl 127 (.tmp 4) (.tmp 16) rfl (w.heap.size + 1) 0 rfl [.bool x.has, .string x.nm, .string (sumS (glT x) W)] rfl (blk_some Z2.out rfl) F2.out (by simp [Value.oneCell']) (by kernel_rfl) rfl ?_
 clear hHeld
 have hbF : Below (w.heap.size + 1) w2 (fill w2 (w.heap.size + 1) 0 [.bool x.has, .string x.nm, .string (sumS (glT x) W)]) := below_fill (Nat.le_refl _) _ _ (Below.refl _ _)
 have ZF := hidI (Z2.out.fill0 (vs := [.bool x.has, .string x.nm, .string (sumS (glT x) W)]) rfl)
 have hs2 := h2.size
 have c0 := (hbF.cell (p := ⟨w.heap.size, 0, none⟩) (show w.heap.size < _ by omega)).trans p0b
 have c1 := (hbF.cell (p := ⟨w.heap.size, 1, none⟩) (show w.heap.size < _ by omega)).trans p1b
 have c2 := (hbF.cell (p := ⟨w.heap.size, 2, none⟩) (show w.heap.size < _ by omega)).trans p2b
 have cx3 := (hbF.cell (p := ⟨w.heap.size, 3, none⟩) (show w.heap.size < _ by omega)).trans p3b
 have cH := (hbF.cell (p := ⟨H, 0, none⟩) (show H < _ by omega)).trans pHb
 have hBF := (hB0.trans (h2.mono hB0.size)).trans (hbF.mono (by omega))
 generalize fill w2 (w.heap.size + 1) 0 [.bool x.has, .string x.nm, .string (sumS (glT x) W)] = E at *
 refine hK.out _ _ ⟨c0, c1, c2, cx3, cH⟩ (fun hHeld => ?_)
 clear hK K
 refine wpAnyH_done (by kernel_rfl) ?_ _
 go_wp2_with fail
 refine bodyPost_ret (v := .agg ([.bool x.has, .string x.nm, .string (sumS (glT x) W)] : List Value).toArray) (results_blk (P := Tryz.prog) (ty := 127) rfl _ E (w.heap.size + 1) [.bool x.has, .string x.nm, .string (sumS (glT x) W)] _ rfl ZF.out Tryz.underlying127 rfl (by kernel_rfl)) rfl ⟨rfl, hBF⟩
end Go.Proofs.YtboojefodbjbcaaGreatDoor
namespace Go.Proofs.YtboojefodbjbcaaGreatDoor
open Go.RowKit
set_option maxRecDepth 100000
set_option linter.unusedVariables false
theorem wpList_app {P : Program} {ops : Array Oper} {rest : List Oper} {o : Oper} {a : Act} {w : World} {Q : Exit → Act → World → Prop}
 (hgd : o.guard = none) (s x : Operand) (t : TypeId) (hop : o.op = Op.call { callee := Callee.builtin Builtin.append, args := #[s, x], argTypes := #[t, t] })
 (base : Nat) (e : TypeId) (i : TypeInfo) (z : Value) (size bytes : Nat) (h1 : P.underlying t = some (.slice e)) (h2 : P.info? e = some i) (h3 : i.zero = some z) (h4 : i.size = size) (h5 : i.bytes = bytes) (h6 : z.cells.size = size) (h7 : 0 < size)
 (v : Value) (n : Nat) (xs : List Value) (hs : a.eval s = v) (hown : w.ownsRow base e size v n xs)
 (ad : Addr) (m c : Nat) (news : List Value) (hx : a.eval x = .slice (some ad) m c) (hn : news.length = m * size) (hc : ∀ j u, news[j]? = some u → w.cell? (ad.add j) = some u) (h1c : ∀ u ∈ news, u.oneCell' = true)
 (b1 : n + m ≤ maxLen) (b2 : (n + m) * bytes ≤ 140737488355328) (hb : base ≤ w.heap.size)
 (hK : ∀ v' w', w'.ownsRow base e size v' (n + m) (xs ++ news) → w.grownBy w' v.ownBlock → wpList P ops Q rest (a.put o.dst v') w') : wpList P ops Q (o :: rest) a w := by
 refine wpList_plain hgd fun K hK' => ?_
 obtain ⟨v', w', hrun, r1, r2, _⟩ := run_append_own (P := P) w base t o.type e i z size bytes h1 h2 h3 h4 h5 h6 h7 v n xs hown ad m c news hn hc h1c b1 b2 hb
 unfold Oper.wp
 simp [execOp, hop, resolve, invoke, builtin, hs, hx, hrun, Result.andThen]
 exact hK' _ _ (hK v' w' r1 r2)
theorem own_blk {u : World} {base e size n : Nat} {v : Value} {xs : List Value} (h : u.ownsRow base e size v n xs) {k : Nat} (hk : v.ownBlock = some k) : base ≤ k := by
 rcases h.2 with ⟨hv, _⟩ | ⟨g, cap, cur, hv, hg, hh, _⟩
 · subst hv; simp [Value.ownBlock] at hk
 · subst hv
   simp [Value.ownBlock] at hk
   omega
theorem row_form {u : World} {base e size n : Nat} {v : Value} {xs : List Value} (h : u.ownsRow base e size v n xs) : ∃ a c, v = .slice a n c := by
 rcases h.2 with ⟨hv, h0⟩ | ⟨g, cap, cur, hv, hg, hh, _⟩
 · exact ⟨none, 0, by rw [hv, h0]⟩
 · exact ⟨_, _, hv⟩
theorem info_parts' {P : Program} {e : TypeId} {z : Value} {n m : Nat} (h : (P.info? e).map (fun i => (i.zero, i.size, i.bytes)) = some (some z, n, m)) : ∃ i, P.info? e = some i ∧ i.zero = some z ∧ i.size = n ∧ i.bytes = m := by
 cases hq : P.info? e with
 | none => simp [hq] at h
 | some i =>
  simp only [hq, Option.map_some, Option.some.injEq, Prod.mk.injEq] at h
  exact ⟨i, rfl, h.1, h.2.1, h.2.2⟩
end Go.Proofs.YtboojefodbjbcaaGreatDoor
namespace Go.Proofs.YtboojefodbjbcaaGreatDoor
open Go.RowKit Go.Maps
set_option linter.unusedVariables false
def tokR (v : Value) : Option (DataW Value × List MemPlace) := some (.held v, [])
def kS (s : ByteArray) : Lit := .string s.data.toList
def eS (p : ByteArray × Value) : Lit × DataW Value := (kS p.1, .held p.2)
def mapD (l : List (ByteArray × Value)) : DataW Value := .map (l.map eS)
def bef (a b : ByteArray) : Bool := bytesBefore a.data.toList b.data.toList
def insK (x : ByteArray × Value) : List (ByteArray × Value) → List (ByteArray × Value)
 | [] => [x]
 | y :: r => if bef x.1 y.1 then x :: y :: r else y :: insK x r
def Asc (l : List (ByteArray × Value)) : Prop := l.Pairwise fun p q => bef p.1 q.1 = true
def getK (l : List (ByteArray × Value)) (k : ByteArray) : Option Value := (l.find? fun p => decide (p.1 = k)).map (·.2)
theorem ba_data {a b : ByteArray} (h : a.data.toList = b.data.toList) : a = b := by
 apply ByteArray.ext
 exact Array.toList_inj.1 h
theorem kS_same (a b : ByteArray) : (kS a).sameKey (kS b) = decide (a = b) := by
 show (a.data.toList == b.data.toList) = decide (a = b)
 by_cases h : a = b
 · simp [h]
 · rw [decide_eq_false h]
   exact beq_eq_false_iff_ne.2 (fun e => h (ba_data e))
theorem mapD_at (l : List (ByteArray × Value)) (k : ByteArray) (z : DataW Value) : (mapD l).atKey (kS k) z = match getK l k with | some v => .held v | none => z := by
 unfold mapD DataW.atKey getK
 simp only [List.find?_map]
 have e : ((fun p : Lit × DataW Value => p.1.sameKey (kS k)) ∘ eS) = fun p => decide (p.1 = k) := funext fun p => kS_same p.1 k
 rw [e]
 cases List.find? (fun p : ByteArray × Value => decide (p.1 = k)) l <;> rfl
theorem mapD_has (l : List (ByteArray × Value)) (k : ByteArray) : has (mapD l) (kS k) = (getK l k).isSome := by
 show (l.map eS).any (fun p => p.1.sameKey (kS k)) = _
 rw [List.any_map]
 have e : ((fun p : Lit × DataW Value => p.1.sameKey (kS k)) ∘ eS) = fun p => decide (p.1 = k) := funext fun p => kS_same p.1 k
 rw [e]
 unfold getK
 rw [Option.isSome_map, Bool.eq_iff_iff]
 simp
theorem mapD_size (l : List (ByteArray × Value)) : size (mapD l) = l.length := by
 show (l.map eS).length = _
 simp
theorem insK_eS (x : ByteArray × Value) (l : List (ByteArray × Value)) : (insK x l).map eS = DataW.insert (eS x) (l.map eS) := by
 induction l with
 | nil => rfl
 | cons y r ih =>
  unfold insK
  show _ = if (kS x.1).before (kS y.1) = true then _ else _
  show List.map eS (if bytesBefore x.1.data.toList y.1.data.toList = true then _ else _) = if bytesBefore x.1.data.toList y.1.data.toList = true then _ else _
  split
  · rfl
  · simp [ih]
theorem getK_none {l : List (ByteArray × Value)} {k : ByteArray} : getK l k = none ↔ ∀ p ∈ l, p.1 ≠ k := by
 unfold getK
 simp
theorem mapD_put {l : List (ByteArray × Value)} {k : ByteArray} (v : Value) (h : getK l k = none) : (mapD l).put (kS k) (.held v) = mapD (insK (k, v) l) := by
 show DataW.map (DataW.insert (eS (k, v)) ((l.map eS).filter fun p => !p.1.sameKey (kS k))) = DataW.map ((insK (k, v) l).map eS)
 rw [insK_eS]
 congr 2
 rw [List.filter_eq_self]
 intro p hp
 obtain ⟨q, hq, rfl⟩ := List.mem_map.1 hp
 show (!(kS q.1).sameKey (kS k)) = true
 rw [kS_same, decide_eq_false (getK_none.1 h q hq)]
 rfl
theorem insK_perm (x : ByteArray × Value) (l : List (ByteArray × Value)) : (insK x l).Perm (x :: l) := by
 induction l with
 | nil => exact List.Perm.refl _
 | cons y r ih =>
  unfold insK
  split
  · exact List.Perm.refl _
  · exact (ih.cons y).trans (List.Perm.swap x y r)
theorem bef_irr (a : ByteArray) : bef a a = false := WideAt.bytes_irrefl _
theorem bef_tr {a b c : ByteArray} (h : bef a b = true) (h' : bef b c = true) : bef a c = true := WideShapes.bytes_trans _ _ _ h h'
theorem bef_tot {a b : ByteArray} (h : a ≠ b) : bef a b = true ∨ bef b a = true := WideAt.bytes_total _ _ (fun e => h (ba_data e))
theorem insK_asc {x : ByteArray × Value} {l : List (ByteArray × Value)} (h : Asc l) (hx : ∀ p ∈ l, p.1 ≠ x.1) : Asc (insK x l) := by
 induction l with
 | nil => exact List.pairwise_singleton _ _
 | cons y r ih =>
  have h' := List.pairwise_cons.1 h
  unfold insK
  split
  · rename_i hb
    exact List.pairwise_cons.2 ⟨fun p hp => by
     rcases List.mem_cons.1 hp with rfl | hp
     · exact hb
     · exact bef_tr hb (h'.1 p hp), h⟩
  · rename_i hb
    have hyx : bef y.1 x.1 = true := (bef_tot (hx y (List.mem_cons_self ..))).elim id (fun e => absurd e hb)
    refine List.pairwise_cons.2 ⟨fun p hp => ?_, ih h'.2 (fun p hp => hx p (List.mem_cons_of_mem _ hp))⟩
    rcases List.mem_cons.1 ((insK_perm x r).mem_iff.1 hp) with rfl | hp
    · exact hyx
    · exact h'.1 p hp
theorem getK_mem {l : List (ByteArray × Value)} {k : ByteArray} {v : Value} (h : getK l k = some v) : (k, v) ∈ l := by
 unfold getK at h
 obtain ⟨p, hp, rfl⟩ := Option.map_eq_some_iff.1 h
 have h1 := List.mem_of_find?_eq_some hp
 have h2 := List.find?_some hp
 simp at h2
 rw [← h2]
 exact h1
theorem getK_asc {l : List (ByteArray × Value)} (h : Asc l) {k : ByteArray} {v : Value} (hm : (k, v) ∈ l) : getK l k = some v := by
 induction l with
 | nil => cases hm
 | cons y r ih =>
  have h' := List.pairwise_cons.1 h
  rcases List.mem_cons.1 hm with rfl | hm
  · simp [getK]
  · have hne : y.1 ≠ k := fun e => by
     have := h'.1 _ hm
     rw [e] at this
     simp only [bef_irr] at this
     cases this
    have hr := ih h'.2 hm
    unfold getK at hr ⊢
    rw [List.find?_cons_of_neg (by simpa using hne)]
    exact hr
def iE (i : Nat) (v : Value) : Lit × DataW Value := (.int .i64 i, .held v)
def intD (vs : List Value) : DataW Value := .map ((List.range vs.length).map fun i => iE i (vs.getD i undef))
theorem intD_size (vs : List Value) : size (intD vs) = vs.length := by
 show ((List.range vs.length).map fun i => iE i (vs.getD i undef)).length = _
 simp
theorem intD_at (vs : List Value) (k : Nat) (z : DataW Value) : (intD vs).atKey (.int .i64 k) z = if k < vs.length then .held (vs.getD k undef) else z := by
 unfold intD DataW.atKey
 simp only [List.find?_map]
 have e : ((fun p : Lit × DataW Value => p.1.sameKey (.int .i64 k)) ∘ fun i => iE i (vs.getD i undef)) = fun i => decide (i = k) := funext fun i => by simp [iE, Lit.sameKey]; omega
 rw [e]
 by_cases h : k < vs.length
 · rw [if_pos h]
   have : List.find? (fun i => decide (i = k)) (List.range vs.length) = some k := by
    cases hq : List.find? (fun i => decide (i = k)) (List.range vs.length) with
    | none => exact absurd (List.find?_eq_none.1 hq k (List.mem_range.2 h)) (by simp)
    | some j => have := List.find?_some hq; simp at this; rw [this]
   rw [this]
   rfl
 · rw [if_neg h]
   have : List.find? (fun i => decide (i = k)) (List.range vs.length) = none := List.find?_eq_none.2 (fun j hj => by have := List.mem_range.1 hj; simp; omega)
   rw [this]
   rfl
theorem ins_last (x : Lit × DataW Value) (l : List (Lit × DataW Value)) (h : ∀ p ∈ l, x.1.before p.1 = false) : DataW.insert x l = l ++ [x] := by
 induction l with
 | nil => rfl
 | cons y r ih =>
  unfold DataW.insert
  rw [h y (List.mem_cons_self ..), ih (fun p hp => h p (List.mem_cons_of_mem _ hp))]
  simp
theorem intD_put (vs : List Value) (v : Value) : (intD vs).put (.int .i64 vs.length) (.held v) = intD (vs ++ [v]) := by
 show DataW.map (DataW.insert (iE vs.length v) (((List.range vs.length).map fun i => iE i (vs.getD i undef)).filter fun p => !p.1.sameKey (.int .i64 vs.length))) = DataW.map ((List.range (vs ++ [v]).length).map fun i => iE i ((vs ++ [v]).getD i undef))
 congr 1
 rw [List.filter_eq_self.2, ins_last]
 · rw [List.length_append, List.length_singleton, List.range_succ, List.map_append]
   congr 1
   · apply List.map_congr_left
     intro i hi
     have := List.mem_range.1 hi
     unfold iE
     simp [List.getD, List.getElem?_append_left this]
   · simp [iE, List.getD]
 · intro p hp
   obtain ⟨i, hi, rfl⟩ := List.mem_map.1 hp
   have := List.mem_range.1 hi
   show decide ((vs.length : Int) < (i : Int)) = false
   simp
   omega
 · intro p hp
   obtain ⟨i, hi, rfl⟩ := List.mem_map.1 hp
   have := List.mem_range.1 hi
   simp [iE, Lit.sameKey]
   omega
end Go.Proofs.YtboojefodbjbcaaGreatDoor
