import Derived.Test.YtboojefodbjbcaaGreatDoorZR00
import Derived.Test.YtboojefodbjbcaaGreatDoorRF
namespace Go.Proofs.YtboojefodbjbcaaGreatDoor
open Go.RowKit Go.Maps
set_option maxRecDepth 100000
set_option linter.unusedVariables false
structure An where
 ov : Bool
 cd : Int
 tx : ByteArray
 nm : ByteArray
 ls : List L4
def an0 : An := ⟨false, 0, ⟨#[]⟩, ⟨#[]⟩, []⟩
noncomputable def recQ (W : Int) (ts : List ByteArray) (see : Bool → ByteArray → Option (Int × ByteArray)) : List R3 → An
 | [] => an0
 | x :: r => match tryK W see x.gs [] with
  | none => recQ W ts see r
  | some (ls, some nm) => ⟨false, 0, ⟨#[]⟩, nm, ls⟩
  | some (ls, none) => match ts.find? (fun t => decide (sumS t W = x.out)) with
   | some t => ⟨true, hC t, hT t, ⟨#[]⟩, ls⟩
   | none => recQ W ts see r
noncomputable def rclF (W : Int) (ts : List ByteArray) (see : Bool → ByteArray → Option (Int × ByteArray)) (key : ByteArray) (rs : List R3) : An := recQ W ts see (rs.filter fun x => decide (x.key = key))
theorem recQ_none {W : Int} {ts : List ByteArray} {see : Bool → ByteArray → Option (Int × ByteArray)} {x : R3} {r : List R3} (h : tryK W see x.gs [] = none) : recQ W ts see (x :: r) = recQ W ts see r := by
 rw [recQ, h]
theorem recQ_wait {W : Int} {ts : List ByteArray} {see : Bool → ByteArray → Option (Int × ByteArray)} {x : R3} {r : List R3} {ls : List L4} {nm : ByteArray} (h : tryK W see x.gs [] = some (ls, some nm)) : recQ W ts see (x :: r) = ⟨false, 0, ⟨#[]⟩, nm, ls⟩ := by
 rw [recQ, h]
theorem recQ_over {W : Int} {ts : List ByteArray} {see : Bool → ByteArray → Option (Int × ByteArray)} {x : R3} {r : List R3} {ls : List L4} {t : ByteArray} (h : tryK W see x.gs [] = some (ls, none)) (hf : ts.find? (fun t => decide (sumS t W = x.out)) = some t) : recQ W ts see (x :: r) = ⟨true, hC t, hT t, ⟨#[]⟩, ls⟩ := by
 rw [recQ, h]
 simp only [hf]
theorem recQ_gone {W : Int} {ts : List ByteArray} {see : Bool → ByteArray → Option (Int × ByteArray)} {x : R3} {r : List R3} {ls : List L4} (h : tryK W see x.gs [] = some (ls, none)) (hf : ts.find? (fun t => decide (sumS t W = x.out)) = none) : recQ W ts see (x :: r) = recQ W ts see r := by
 rw [recQ, h]
 simp only [hf]
theorem tryK_name {W : Int} {see : Bool → ByteArray → Option (Int × ByteArray)} {ls' : List L4} {nm : ByteArray} : ∀ (gs : List G3) (ls : List L4), (∀ g ∈ gs, ¬ g.tl = ⟨#[]⟩) → tryK W see gs ls = some (ls', some nm) → ¬ nm = ⟨#[]⟩
 | [], ls, _, h => by simp [tryK] at h
 | g :: r, ls, hg, h => by
  rw [tryK_cons] at h
  cases hq : see g.nm g.tl with
  | none =>
   rw [hq] at h
   simp only [Option.some.injEq, Prod.mk.injEq] at h
   rw [← h.2]
   exact hg g (List.mem_cons_self ..)
  | some p =>
   rw [hq] at h
   simp only at h
   split at h
   · exact tryK_name r _ (fun g h => hg g (List.mem_cons_of_mem _ h)) h
   · cases h
theorem tryK_len {W : Int} {see : Bool → ByteArray → Option (Int × ByteArray)} {ls' : List L4} {o : Option ByteArray} : ∀ (gs : List G3) (ls : List L4), tryK W see gs ls = some (ls', o) → ls'.length ≤ ls.length + gs.length
 | [], ls, h => by
  simp only [tryK, Option.some.injEq, Prod.mk.injEq] at h
  rw [← h.1]; simp
 | g :: r, ls, h => by
  rw [tryK_cons] at h
  cases hq : see g.nm g.tl with
  | none =>
   rw [hq] at h
   simp only [Option.some.injEq, Prod.mk.injEq] at h
   rw [← h.1]; simp
  | some p =>
   rw [hq] at h
   simp only at h
   split at h
   · have := tryK_len r _ h
     simp at this ⊢
     omega
   · cases h
theorem emp_no {t : ByteArray} (h : ¬ t = ⟨#[]⟩) : t.toList.isEmpty = false := by
 cases hq : t.toList with
 | nil => exact absurd (hq.trans (by rw [ByteArray.toList_eq])) (list_ne h)
 | cons a l => rfl
theorem list_range (rs : List R3) : (List.range rs.length).map (fun i => rs.getD i r3z) = rs := by
 refine List.ext_getElem (by simp) fun i h1 h2 => ?_
 simp [List.getD, List.getElem?_eq_getElem h2]
theorem plc_map (rs : List R3) (key : ByteArray) : (plc rs key).map (fun i : Int => rs.getD i.toNat r3z) = rs.filter fun x => decide (x.key = key) := by
 have h : ((List.range rs.length).map (fun i => rs.getD i r3z)).filter (fun x => decide (x.key = key)) = rs.filter fun x => decide (x.key = key) := by rw [list_range]
 rw [← h, List.filter_map]
 unfold plc
 rw [List.map_map]
 rfl
theorem plc_at {rs : List R3} {key : ByteArray} {k : Nat} (h : k < (plc rs key).length) : ∃ p : Nat, (plc rs key).getD k 0 = (p : Int) ∧ p < rs.length ∧ (rs.filter fun x => decide (x.key = key)).drop k = rs.getD p r3z :: (rs.filter fun x => decide (x.key = key)).drop (k + 1) := by
 have hg : ∃ p : Nat, (plc rs key).getD k 0 = (p : Int) ∧ p < rs.length := by
  unfold plc at h ⊢
  rw [List.length_map] at h
  have hm := List.getElem_mem h
  refine ⟨_, ?_, List.mem_range.1 (List.mem_filter.1 hm).1⟩
  rw [List.getD_eq_getElem?_getD, List.getElem?_map, List.getElem?_eq_getElem h]
  rfl
 obtain ⟨p, hp, hl⟩ := hg
 refine ⟨p, hp, hl, ?_⟩
 rw [← plc_map, ← List.map_drop, ← List.map_drop, List.drop_eq_getElem_cons h, List.map_cons]
 have e : (plc rs key)[k] = (p : Int) := by rw [← hp]; simp [List.getD, List.getElem?_eq_getElem h]
 rw [e]
 rfl
theorem ints_cells {w : World} {B : Nat} {va : Option Addr} {vc n : Nat} {zs : List Int} (h : w.ownsInts B 3 .i64 (.slice va n vc) zs) : n = zs.length ∧ (n = 0 ∨ ∃ g, va = some ⟨g, 0, none⟩ ∧ g < w.heap.size ∧ ∀ k, k < n → w.cell? ⟨g, k, none⟩ = some (.int .i64 (zs.getD k 0))) := by
 have hrow := h.1
 rcases h.1.2 with ⟨hv, h0⟩ | ⟨g, cap, cur, hv, hg, hh, _⟩
 · simp at hv
   exact ⟨by omega, .inl (by omega)⟩
 · simp only [Value.slice.injEq] at hv
   obtain ⟨rfl, rfl, rfl⟩ := hv
   refine ⟨rfl, .inr ⟨g, rfl, (Array.getElem?_eq_some_iff.1 hh).1, fun k hk => ?_⟩⟩
   rw [hrow.cellAt k (by omega)]
   simp [List.getD, List.getElem?_eq_getElem hk]
theorem getK_gT (W : Int) (ts : List ByteArray) (k : ByteArray) : getK (ts.map (gT W)) k = (ts.find? (fun t => decide (sumS t W = k))).map hV := by
 unfold getK
 rw [List.find?_map, Option.map_map]
 rfl
theorem own_setp {u : World} {base e size n : Nat} {v : Value} {xs : List Value} (h : u.ownsRow base e size v n xs) {p : Addr} (x : Value) (hp : p.block < base) : (u.setCell p x).ownsRow base e size v n xs :=
 own_other h (by simp) (fun k _ hne => Below.heap_setCell _ _ _ _ hne) hp
theorem blk6 {w1 : World} {B : Nat} {y0 y1 y2 y3 y4 y5 : Value} (h : BlkAt w1 B [y0, y1, y2, y3, y4, y5]) (v0 v1 v2 v3 v4 v5 : Value) : BlkAt ((((((w1.setCell ⟨B, 0, none⟩ v0).setCell ⟨B, 1, none⟩ v1).setCell ⟨B, 2, none⟩ v2).setCell ⟨B, 3, none⟩ v3).setCell ⟨B, 4, none⟩ v4).setCell ⟨B, 5, none⟩ v5) B [v0, v1, v2, v3, v4, v5] := (((((h.set 0 v0 (by simp)).set 1 v1 (by simp)).set 2 v2 (by simp)).set 3 v3 (by simp)).set 4 v4 (by simp)).set 5 v5 (by simp)
def Is46 (base : Nat) (A : An) (w' : World) (e : Ending) : Prop := ∃ v, e = .returned (.tuple #[.agg #[.bool A.ov, .int .i64 A.cd, .string A.tx, .bool false, .string A.nm, .int .i64 0], v]) ∧ w'.ownsRow base 108 4 v A.ls.length (lC A.ls)
theorem gl_names {W : Int} {x : R3} (h : RecOk W x) : ∀ g ∈ x.gs, ¬ g.tl = ⟨#[]⟩ := fun g hg e => by
 obtain ⟨i, hi, he⟩ := List.getElem_of_mem hg
 have := (h.2 i hi).1
 rw [show x.gs.getD i g3z = g by simp [List.getD, List.getElem?_eq_getElem hi, he], e] at this
 simp [nameOk] at this
theorem gl_small {W : Int} {x : R3} (h : RecOk W x) (i : Nat) (hi : i < x.gs.length) : (x.gs.getD i g3z).tl.size ≤ 1048576 := by
 have := (h.2 i hi).1
 simp only [nameOk, Bool.and_eq_true, decide_eq_true_eq] at this
 have e : (x.gs.getD i g3z).tl.data.toList.length = (x.gs.getD i g3z).tl.size := by simp
 omega
set_option maxHeartbeats 8000000 in
theorem c46 (s : St) (B H bT bR bP : Nat) (rv : List Value) (m : M3) (bt bp bm : Nat) (fs : List G.T.F2) (ms : List G.M3) (ds : List G.D8) (w : World) (hSh : Sh B H bT bR bP s.wd (s.ts.map (gT s.wd)) s.rs rv w) (hok : StOk s) (hm : m.le 1048600) (hS : See bt bp bm fs ms ds w) (ht : G.T.treeOk fs) (hp : G.IsPT fs ms) (hr : ∀ has nm r, nm.size ≤ 1048576 → sightF fs ms ds has nm = some r → r.2.size ≤ 1048576) :
 Calls Tryz.prog 46 #[.pointer (some ⟨H, 0, none⟩), .agg #[.string m.nm, .string m.tl, .string m.ar], .func (.func 47) #[] #[.pointer (some ⟨bt, 0, none⟩), .pointer (some ⟨bp, 0, none⟩), .pointer (some ⟨bm, 0, none⟩)]] w fun e w' => Is46 w.heap.size (rclF s.wd s.ts (sightF fs ms ds) (keyR m) s.rs) w' e ∧ Below w.heap.size w w' := by
 obtain ⟨pl, hC, hR⟩ := hSh
 have hrl := hR.len
 have hHlt := hC.lt
 have hRO := hok.2.2
 have hn := hRO.1
 obtain ⟨v, hv⟩ : ∃ v, (getK pl (keyR m)).getD (.slice none 0 0) = v := ⟨_, rfl⟩
 have hO := ints_at hR hv (Below.refl _ _)
 obtain ⟨va, vc, hvf⟩ := row_form hO.1
 rw [hvf] at hO hv
 obtain ⟨_, hcs⟩ := ints_cells hO
 have HCS := hidI hcs
 have hln : (plc s.rs (keyR m)).length ≤ 1000 := Nat.le_trans (plc_len _ _) (by omega)
 obtain ⟨es, ck, hpw, hpF, hps, hpD⟩ := hC.pc
 obtain ⟨es1, ck1, hrw, hrF, hrs, hrD⟩ := hC.rc
 obtain ⟨es2, ck2, htw, htF, hts, htD⟩ := hC.tx
 have hbP : bP < w.heap.size := (Array.getElem?_eq_some_iff.1 hpw).1
 have hbR : bR < w.heap.size := (Array.getElem?_eq_some_iff.1 hrw).1
 have hbT : bT < w.heap.size := (Array.getElem?_eq_some_iff.1 htw).1
 have hkm : (keyR m).size ≤ maxLen := by
  have := hm.2.1
  have := hm.2.2
  have h1 : (⟨#[32]⟩ : ByteArray).size = 1 := rfl
  unfold keyR maxLen
  rw [ByteArray.size_append, ByteArray.size_append]
  omega
 have HLK : Hid (∀ u : World, u.heap[bP]? = some (.map es ck) → (Instr.lookup 153 (.map (some bP)) (.string (keyR m)) false).run Tryz.prog u = .ok (.slice va (plc s.rs (keyR m)).length vc) u) := fun u hu => by
  rw [← hv]
  exact look_S (n := pl.length) ⟨es, ck, hu, hpF, hps, hpD⟩ Tryz.underlying153 (by kernel_rfl) hkm
 have HLA : Hid (∀ (u : World) (p : Nat), p < s.rs.length → u.heap[bR]? = some (.map es1 ck1) → (Instr.lookup 152 (.map (some bR)) (.int .i64 p) false).run Tryz.prog u = .ok (rv.getD p undef) u) := fun u p hp hu =>
  look_I (n := rv.length) (z := .agg #[.string ⟨#[]⟩, .slice none 0 0, .string ⟨#[]⟩]) ⟨es1, ck1, hu, hrF, hrs, hrD⟩ Tryz.underlying152 (by kernel_rfl) (by omega) (by omega)
 have HLT : Hid (∀ (u : World) (k : ByteArray), k.size ≤ maxLen → u.heap[bT]? = some (.map es2 ck2) → (Instr.lookup 151 (.map (some bT)) (.string k) true).run Tryz.prog u = .ok (.tuple #[(getK (s.ts.map (gT s.wd)) k).getD (.agg #[.string ⟨#[]⟩, .int .i64 0, .string ⟨#[]⟩]), .bool (getK (s.ts.map (gT s.wd)) k).isSome]) u) := fun u k hk hu =>
  look_ok_S (n := (s.ts.map (gT s.wd)).length) ⟨es2, ck2, hu, htF, hts, htD⟩ Tryz.underlying151 (by kernel_rfl) hk
 have HRC := hidI hR.recs
 have HRO := hidI hRO.2
 have hwd := hok.1
 have hB0 : Below w.heap.size w ((w.alloc (.cells #[.string m.nm, .string m.tl, .string m.ar] 51)).alloc (.cells #[.bool false, .int .i64 0, .string ⟨#[]⟩, .bool false, .string ⟨#[]⟩, .int .i64 0] 39)) := ((Below.refl _ _).alloc (Nat.le_refl _) _).alloc (by simp) _
 have sz0 : ((w.alloc (.cells #[.string m.nm, .string m.tl, .string m.ar] 51)).alloc (.cells #[.bool false, .int .i64 0, .string ⟨#[]⟩, .bool false, .string ⟨#[]⟩, .int .i64 0] 39)).heap.size = w.heap.size + 2 := by simp
 have hp0 : ((w.alloc (.cells #[.string m.nm, .string m.tl, .string m.ar] 51)).alloc (.cells #[.bool false, .int .i64 0, .string ⟨#[]⟩, .bool false, .string ⟨#[]⟩, .int .i64 0] 39)).heap[bP]? = some (.map es ck) := (hB0.block bP hbP).trans hpw
 have hr0 : ((w.alloc (.cells #[.string m.nm, .string m.tl, .string m.ar] 51)).alloc (.cells #[.bool false, .int .i64 0, .string ⟨#[]⟩, .bool false, .string ⟨#[]⟩, .int .i64 0] 39)).heap[bR]? = some (.map es1 ck1) := (hB0.block bR hbR).trans hrw
 have ht0 : ((w.alloc (.cells #[.string m.nm, .string m.tl, .string m.ar] 51)).alloc (.cells #[.bool false, .int .i64 0, .string ⟨#[]⟩, .bool false, .string ⟨#[]⟩, .int .i64 0] 39)).heap[bT]? = some (.map es2 ck2) := (hB0.block bT hbT).trans htw
 have E0 := hidI ((blk_new w [.string m.nm, .string m.tl, .string m.ar] 51).below ((Below.refl _ _).alloc (Nat.le_refl _) (.cells #[.bool false, .int .i64 0, .string ⟨#[]⟩, .bool false, .string ⟨#[]⟩, .int .i64 0] 39)) (by simp))
 have B6 : Hid (BlkAt ((w.alloc (.cells #[.string m.nm, .string m.tl, .string m.ar] 51)).alloc (.cells #[.bool false, .int .i64 0, .string ⟨#[]⟩, .bool false, .string ⟨#[]⟩, .int .i64 0] 39)) (w.heap.size + 1) [.bool false, .int .i64 0, .string ⟨#[]⟩, .bool false, .string ⟨#[]⟩, .int .i64 0]) := by
  have h := blk_new (w.alloc (.cells #[.string m.nm, .string m.tl, .string m.ar] 51)) [.bool false, .int .i64 0, .string ⟨#[]⟩, .bool false, .string ⟨#[]⟩, .int .i64 0] 39
  rw [show (w.alloc (.cells #[.string m.nm, .string m.tl, .string m.ar] 51)).heap.size = w.heap.size + 1 by simp] at h
  exact h
 have O6 : Hid (OpnAt ((w.alloc (.cells #[.string m.nm, .string m.tl, .string m.ar] 51)).alloc (.cells #[.bool false, .int .i64 0, .string ⟨#[]⟩, .bool false, .string ⟨#[]⟩, .int .i64 0] 39)) (w.heap.size + 1)) := by
  have h := opn_new (w.alloc (.cells #[.string m.nm, .string m.tl, .string m.ar] 51)) #[.bool false, .int .i64 0, .string ⟨#[]⟩, .bool false, .string ⟨#[]⟩, .int .i64 0] 39
  rw [show (w.alloc (.cells #[.string m.nm, .string m.tl, .string m.ar] 51)).heap.size = w.heap.size + 1 by simp] at h
  exact h
 have C0 := hC.below hB0
 have f0 := C0.blk 0 _ rfl
 have f1 := C0.blk 1 _ rfl
 have f2 := C0.blk 2 _ rfl
 have f3 := C0.blk 3 _ rfl
 have e0 := E0.out 0 _ rfl
 have e1 := E0.out 1 _ rfl
 have e2 := E0.out 2 _ rfl
 have S0 := hidI (hS.below hB0)
 have HT := hidI ht
 have HP := hidI hp
 have HRR := hidI hr
 have HW := hidI hB0
 clear hC hR hv hvf hO hpw hpF hps hpD hrw hrF hrs hrD htw htF hts htD hcs hrl E0 C0 hS ht hp hr hok hRO
 go_enter Tryz.func46, Tryz.ntmps46
 go_wp2_with fail
 generalize ((w.alloc (.cells #[.string m.nm, .string m.tl, .string m.ar] 51)).alloc (.cells #[.bool false, .int .i64 0, .string ⟨#[]⟩, .bool false, .string ⟨#[]⟩, .int .i64 0] 39)) = U0 at *
 refine wp_region_held_drew (S := (fun u => (u.cell? ⟨H, 3, none⟩ = some (.map (some bP)) ∧ u.heap[bP]? = some (.map es ck)) ∧ u.cell? ⟨w.heap.size, 0, none⟩ = some (.string m.nm) ∧ u.cell? ⟨w.heap.size, 1, none⟩ = some (.string m.tl) ∧ u.cell? ⟨w.heap.size, 2, none⟩ = some (.string m.ar))) (by kernel_rfl) ?_ (fun hHeld => ?_)
 · exact ⟨⟨f3, hp0⟩, e0, e1, e2⟩
 refine tk (i := 0) (oi := ⟨some 16, .move (.tmp 0), 97, _, _, none⟩) (v := ?_) rfl (by kernel_rfl) rfl ?e hHeld ?_
 case e => intro wq hSw; (try dsimp only at hSw); go_simp; try with_reducible rfl
 try simp only [qq]
 refine tk (i := 1) (oi := ⟨some 17, .nilCheck (.tmp 16), 0, _, _, none⟩) (v := ?_) rfl (by kernel_rfl) rfl ?e hHeld ?_
 case e => intro wq hSw; (try dsimp only at hSw); go_simp; try with_reducible rfl
 try simp only [qq]
 refine tk (i := 2) (oi := ⟨some 18, .fieldAddr 155 (.tmp 17) 3, 0, _, _, none⟩) (v := ?_) rfl (by kernel_rfl) rfl ?e hHeld ?_
 case e => intro wq hSw; (try dsimp only at hSw); go_simp; try with_reducible rfl
 try simp only [qq]
 refine tk (i := 3) (oi := ⟨some 19, .load 153 (.tmp 18), 153, _, _, none⟩) (v := ?_) rfl (by kernel_rfl) rfl ?e hHeld ?_
 case e => intro wq hSw; (try dsimp only at hSw); go_simp; try with_reducible rfl
 try simp only [qq]
 refine tk (i := 4) (oi := ⟨some 20, .load 51 (.tmp 4), 51, _, _, none⟩) (v := ?_) rfl (by kernel_rfl) rfl ?e hHeld ?_
 case e => intro wq hSw; (try dsimp only at hSw); go_simp; try with_reducible rfl
 try simp only [qq]
 refine tk (i := 8) (oi := ⟨some 24, .move (.const (.int .i64 0)), 3, _, _, none⟩) (v := ?_) rfl (by kernel_rfl) rfl ?e hHeld ?_
 case e => intro wq hSw; (try dsimp only at hSw); go_simp; try with_reducible rfl
 try simp only [qq]
 refine rd (i := 5) (o := ⟨some 21, .call ⟨.value (.func 91), #[.tmp 20], #[51]⟩, 9, _, _, none⟩) rfl (by kernel_rfl) (fun K hK => ?_)
 go_simp
 refine (c91 m _ hm).mono ?_
 rintro e w1 ⟨rfl, hb10⟩
 have hb1 := (Below.refl U0.heap.size U0).drew.trans hb10
 go_wp2_with fail
 clear hHeld
 refine hK.out _ _ ⟨⟨(hb1.cell (p := ⟨H, 3, none⟩) (show H < U0.heap.size by omega)).trans f3, (hb1.block bP (show bP < U0.heap.size by omega)).trans hp0⟩, (hb1.cell (p := ⟨w.heap.size, 0, none⟩) (show w.heap.size < U0.heap.size by omega)).trans e0, (hb1.cell (p := ⟨w.heap.size, 1, none⟩) (show w.heap.size < U0.heap.size by omega)).trans e1, (hb1.cell (p := ⟨w.heap.size, 2, none⟩) (show w.heap.size < U0.heap.size by omega)).trans e2⟩ (fun hHeld => ?_)
 clear hK K
 try simp only [qq]
 refine tk (i := 6) (oi := ⟨some 22, .lookup 153 (.tmp 19) (.tmp 21) false, 160, _, _, none⟩) (v := ?_) rfl (by kernel_rfl) rfl ?e hHeld ?_
 case e => intro wq hSw; (try dsimp only at hSw); have hq := HLK.out wq hSw.1.2; go_simp; try with_reducible rfl
 try simp only [qq]
 refine tk (i := 7) (oi := ⟨some 23, .call ⟨.builtin .len, #[.tmp 22], #[160]⟩, 3, _, _, none⟩) (v := ?_) rfl (by kernel_rfl) rfl ?e hHeld ?_
 case e => intro wq hSw; (try dsimp only at hSw); go_simp; try with_reducible rfl
 try simp only [qq]
 refine wpAnyH_done (by kernel_rfl) ?_ _
 go_wp2_with fail
 go_loopw [24] (fun i wr => ∃ (k : Nat), k ≤ (plc s.rs (keyR m)).length ∧ i = .int .i64 k ∧ Hid (rclF s.wd s.ts (sightF fs ms ds) (keyR m) s.rs = recQ s.wd s.ts (sightF fs ms ds) ((s.rs.filter fun x => decide (x.key = keyR m)).drop k)) ∧ Below U0.heap.size U0 wr) (fun i _ => (plc s.rs (keyR m)).length - (Go.RowKit.intOf i).toNat)
 case atStart => exact ⟨0, Nat.zero_le _, rfl, hidI rfl, hb1⟩
 case round =>
  obtain ⟨k, hk, rfl, HJ, hbr⟩ := hrel
  by_cases hlt : k < (plc s.rs (keyR m)).length
  · rcases HCS.out with h0 | ⟨g, hva, hgw, hcell⟩
    · omega
    subst hva
    obtain ⟨p, hzp, hp, hdr⟩ := plc_at hlt
    have HJ2 := HJ.out
    rw [hdr] at HJ2
    have ck0 := (hbr.cell (p := ⟨g, k, none⟩) (show g < U0.heap.size by omega)).trans ((hB0.cell (p := ⟨g, k, none⟩) hgw).trans (hcell k hlt))
    rw [hzp] at ck0
    obtain ⟨a2, c2, hv2, hG2, _⟩ := HRC.out p hp
    have hyo := HRO.out p hp
    have hlr := HLA.out wr p hp ((hbr.block bR (show bR < U0.heap.size by omega)).trans hr0)
    generalize s.rs.getD p r3z = y at *
    rw [hv2] at hlr
    have HYO := hidI hyo
    have hyn := hyo.1.2.2
    have hyos : y.out.size ≤ 8 := by have := hyo.1.2.1; omega
    have HJJ := hidI HJ2
    have q2 := (hbr.cell (p := ⟨H, 2, none⟩) (show H < U0.heap.size by omega)).trans f2
    have bY : Below wr.heap.size wr (wr.alloc (.cells #[.string y.key, .slice a2 y.gs.length c2, .string y.out] 82)) := (Below.refl _ _).alloc (Nat.le_refl _) _
    have hbY : Below U0.heap.size U0 (wr.alloc (.cells #[.string y.key, .slice a2 y.gs.length c2, .string y.out] 82)) := hbr.trans (bY.mono hbr.size)
    have EY := hidI (blk_new wr [.string y.key, .slice a2 y.gs.length c2, .string y.out] 82)
    have szY : (wr.alloc (.cells #[.string y.key, .slice a2 y.gs.length c2, .string y.out] 82)).heap.size = wr.heap.size + 1 := by simp
    have y1 := EY.out 1 _ rfl
    have GY := hidI (gls_below hG2 (HW.out.trans (hbY.mono (by omega))))
    have SY := hidI (S0.out.below hbY)
    have szr := hbr.size
    have h92 := c92 H s.wd bt bp bm fs ms ds y.gs a2 c2 _ (Nat.lt_of_lt_of_le hHlt (by omega)) ((hbY.cell (p := ⟨H, 0, none⟩) (show H < U0.heap.size by omega)).trans f0) SY.out HT.out HP.out (by omega) (gl_small HYO.out) HRR.out GY.out
    clear hcell hG2 hv2 HJ2 hdr HJ hyo SY GY
    go_wp2_with fail
    generalize (wr.alloc (.cells #[.string y.key, .slice a2 y.gs.length c2, .string y.out] 82)) = UY at *
    refine h92.mono ?_
    rintro e w2 ⟨he, hb2⟩
    clear h92
    have hb02 : Below U0.heap.size U0 w2 := hbY.trans (hb2.mono hbY.size)
    have BV := hidI (B6.out.below hb02 (by omega))
    have OV := hidI (O6.out.below hb02 (by omega))
    have hBV : Below w.heap.size w w2 := HW.out.trans (hb02.mono (by omega))
    have sz2 := hb2.size
    have t1 := (hb02.cell (p := ⟨H, 1, none⟩) (show H < U0.heap.size by omega)).trans f1
    have tm := (hb02.block bT (show bT < U0.heap.size by omega)).trans ht0
    have to := (EY.out.below hb2 (by omega)) 2 _ rfl
    have HLY := fun u hu => HLT.out u y.out (by unfold maxLen; omega) hu
    obtain ⟨T0, C0, T1, fl, hlv, hlf, hfl⟩ : ∃ (T0 : ByteArray) (C0 : Int) (T1 : ByteArray) (fl : Bool), (getK (s.ts.map (gT s.wd)) y.out).getD (.agg #[.string ⟨#[]⟩, .int .i64 0, .string ⟨#[]⟩]) = .agg #[.string T0, .int .i64 C0, .string T1] ∧ (getK (s.ts.map (gT s.wd)) y.out).isSome = fl ∧ ((fl = false ∧ s.ts.find? (fun t => decide (sumS t s.wd = y.out)) = none) ∨ (fl = true ∧ ∃ t, s.ts.find? (fun t => decide (sumS t s.wd = y.out)) = some t ∧ C0 = hC t ∧ T1 = hT t)) := by
     rw [getK_gT]
     cases hq : s.ts.find? (fun t => decide (sumS t s.wd = y.out)) with
     | none => exact ⟨_, _, _, false, rfl, rfl, .inl ⟨rfl, rfl⟩⟩
     | some t => exact ⟨_, _, _, true, rfl, rfl, .inr ⟨rfl, t, rfl, rfl, rfl⟩⟩
    rw [hlv, hlf] at HLY
    replace HLY := hidI HLY
    have HFL := hidI hfl
    clear hlv hlf hfl EY hbY y1 ck0 q2 hlr
    cases hq : tryK s.wd (sightF fs ms ds) y.gs [] with
    | none =>
     rw [hq] at he
     have he' : e = .returned (.tuple #[.slice none 0 0, .string ⟨#[]⟩, .bool false]) := he
     subst he'
     have HN := hidI (HJJ.out.trans (recQ_none hq))
     clear he HJJ HFL
     go_wp2_with fail
     refine wp_region_held_drew (S := (fun u => (u.cell? ⟨H, 1, none⟩ = some (.map (some bT)) ∧ u.heap[bT]? = some (.map es2 ck2)) ∧ u.cell? ⟨wr.heap.size, 2, none⟩ = some (.string y.out))) (by kernel_rfl) ?_ (fun hHeld => ?_)
     · exact ⟨⟨t1, tm⟩, to⟩
     refine tk (i := 0) (oi := ⟨some 49, .move (.tmp 0), 97, _, _, none⟩) (v := ?_) rfl (by kernel_rfl) rfl ?e hHeld ?_
     case e => intro wq hSw; (try dsimp only at hSw); go_simp; try with_reducible rfl
     try simp only [qq]
     refine tk (i := 1) (oi := ⟨some 50, .nilCheck (.tmp 49), 0, _, _, none⟩) (v := ?_) rfl (by kernel_rfl) rfl ?e hHeld ?_
     case e => intro wq hSw; (try dsimp only at hSw); go_simp; try with_reducible rfl
     try simp only [qq]
     refine tk (i := 2) (oi := ⟨some 51, .fieldAddr 155 (.tmp 50) 1, 0, _, _, none⟩) (v := ?_) rfl (by kernel_rfl) rfl ?e hHeld ?_
     case e => intro wq hSw; (try dsimp only at hSw); go_simp; try with_reducible rfl
     try simp only [qq]
     refine tk (i := 3) (oi := ⟨some 52, .load 151 (.tmp 51), 151, _, _, none⟩) (v := ?_) rfl (by kernel_rfl) rfl ?e hHeld ?_
     case e => intro wq hSw; (try dsimp only at hSw); go_simp; try with_reducible rfl
     try simp only [qq]
     refine tk (i := 4) (oi := ⟨some 53, .fieldAddr 82 (.tmp 10) 2, 0, _, _, none⟩) (v := ?_) rfl (by kernel_rfl) rfl ?e hHeld ?_
     case e => intro wq hSw; (try dsimp only at hSw); go_simp; try with_reducible rfl
     try simp only [qq]
     refine tk (i := 5) (oi := ⟨some 54, .load 9 (.tmp 53), 9, _, _, none⟩) (v := ?_) rfl (by kernel_rfl) rfl ?e hHeld ?_
     case e => intro wq hSw; (try dsimp only at hSw); go_simp; try with_reducible rfl
     try simp only [qq]
     refine tk (i := 6) (oi := ⟨some 55, .lookup 151 (.tmp 52) (.tmp 54) true, 163, _, _, none⟩) (v := ?_) rfl (by kernel_rfl) rfl ?e hHeld ?_
     case e => intro wq hSw; (try dsimp only at hSw); have hq := HLY.out wq hSw.1.2; go_simp; try with_reducible rfl
     try simp only [qq]
     refine tk (i := 7) (oi := ⟨some 48, .move (.tmp 55), 163, _, _, none⟩) (v := ?_) rfl (by kernel_rfl) rfl ?e hHeld ?_
     case e => intro wq hSw; (try dsimp only at hSw); go_simp; try with_reducible rfl
     try simp only [qq]
     refine tk (i := 8) (oi := ⟨some 56, .extract (.tmp 48) 0, 157, _, _, none⟩) (v := ?_) rfl (by kernel_rfl) rfl ?e hHeld ?_
     case e => intro wq hSw; (try dsimp only at hSw); go_simp; try with_reducible rfl
     try simp only [qq]
     refine tk (i := 9) (oi := ⟨some 57, .extract (.tmp 48) 1, 4, _, _, none⟩) (v := ?_) rfl (by kernel_rfl) rfl ?e hHeld ?_
     case e => intro wq hSw; (try dsimp only at hSw); go_simp; try with_reducible rfl
     try simp only [qq]
     refine rd (i := 10) (o := ⟨some 14, .alloc 157, 0, _, _, none⟩) rfl (by kernel_rfl) (fun K hK => ?_)
     go_simp
     have hd3 : Below w2.heap.size w2 ((w2.alloc (.cells #[.string ⟨#[]⟩, .int .i64 0, .string ⟨#[]⟩] 157)).drew) := ((Below.refl _ _).alloc (Nat.le_refl _) _).drew
     have bB : Hid (BlkAt ((w2.alloc (.cells #[.string ⟨#[]⟩, .int .i64 0, .string ⟨#[]⟩] 157)).drew) w2.heap.size [.string ⟨#[]⟩, .int .i64 0, .string ⟨#[]⟩]) := hidI (blk_new w2 [.string ⟨#[]⟩, .int .i64 0, .string ⟨#[]⟩] 157)
     have oB : Hid (OpnAt ((w2.alloc (.cells #[.string ⟨#[]⟩, .int .i64 0, .string ⟨#[]⟩] 157)).drew) w2.heap.size) := hidI (opn_new w2 #[.string ⟨#[]⟩, .int .i64 0, .string ⟨#[]⟩] 157)
     have sB : w2.heap.size < ((w2.alloc (.cells #[.string ⟨#[]⟩, .int .i64 0, .string ⟨#[]⟩] 157)).drew).heap.size := by simp
     clear hHeld
     refine hK.out _ _ ⟨⟨(hd3.cell (p := ⟨H, 1, none⟩) (show H < w2.heap.size by omega)).trans t1, (hd3.block bT (show bT < w2.heap.size by omega)).trans tm⟩, (hd3.cell (p := ⟨wr.heap.size, 2, none⟩) (show wr.heap.size < w2.heap.size by omega)).trans to⟩ (fun hHeld => ?_)
     clear hK K
     try simp only [qq]
     generalize ((w2.alloc (.cells #[.string ⟨#[]⟩, .int .i64 0, .string ⟨#[]⟩] 157)).drew) = w3 at *
     refine rd (i := 11) (o := ⟨none, .store 157 (.tmp 14) (.tmp 56), 0, _, _, none⟩) rfl (by kernel_rfl) (fun K hK => ?_)
     refine step_store_blk rfl 157 (.tmp 14) (.tmp 56) rfl w2.heap.size 0 rfl [.string T0, .int .i64 C0, .string T1] rfl (blk_some bB.out rfl) oB.out (by simp [Value.oneCell']) (by kernel_rfl) rfl ?_
     clear hHeld
     refine st_over (old := [.string ⟨#[]⟩, .int .i64 0, .string ⟨#[]⟩]) (N := w2.heap.size) rfl bB.out oB.out (Nat.le_refl _) ?_
     intro E bE ZE OE hEs hE
     have hdE : Below w2.heap.size w2 E := hd3.trans bE
     refine hK.out _ _ ⟨⟨(hdE.cell (p := ⟨H, 1, none⟩) (show H < w2.heap.size by omega)).trans t1, (hdE.block bT (show bT < w2.heap.size by omega)).trans tm⟩, (hdE.cell (p := ⟨wr.heap.size, 2, none⟩) (show wr.heap.size < w2.heap.size by omega)).trans to⟩ (fun hHeld => ?_)
     clear hK K
     try simp only [qq]
     refine tk (i := 12) (oi := ⟨some 15, .assign (.tmp 57), 4, _, _, none⟩) (v := ?_) rfl (by kernel_rfl) rfl ?e hHeld ?_
     case e => intro wq hSw; (try dsimp only at hSw); go_simp; try with_reducible rfl
     try simp only [qq]
     refine wpAnyH_done (by kernel_rfl) ?_ _
     clear hHeld
     have HZE := hidI ZE
     have szE : w2.heap.size + 1 ≤ E.heap.size := by omega
     clear ZE OE hE bE bB oB hd3
     go_wp2
     go_roundw
     case rel => exact ⟨k + 1, by omega, by go_num, HN, hb02.trans (hdE.mono hb02.size)⟩
     case measure => simp [Go.RowKit.intOf]; omega
    | some o =>
     obtain ⟨ls, o⟩ := o
     rw [hq] at he
     obtain ⟨vv, he, hown⟩ := he
     obtain ⟨av, cv, rfl⟩ := row_form hown
     have HOW0 := hidI hown
     cases o with
     | some nm =>
      have hnn := emp_no (tryK_name _ _ (gl_names HYO.out) hq)
      have HN := hidI (HJJ.out.trans (recQ_wait hq))
      clear HJJ HFL HLY hown
      simp only [Option.getD_some, Option.isNone_some] at he
      subst he
      have x0 := BV.out 0 _ rfl
      have fx0 := OV.out 0
      have x1 := BV.out 1 _ rfl
      have fx1 := OV.out 1
      have x2 := BV.out 2 _ rfl
      have fx2 := OV.out 2
      have x3 := BV.out 3 _ rfl
      have fx3 := OV.out 3
      have x4 := BV.out 4 _ rfl
      have fx4 := OV.out 4
      have x5 := BV.out 5 _ rfl
      have fx5 := OV.out 5
      go_wp2
      have HE := hidI (blk6 BV.out (.bool false) (.int .i64 0) (.string ⟨#[]⟩) (.bool false) (.string nm) (.int .i64 0))
      have e0q := HE.out 0 _ rfl
      have e1q := HE.out 1 _ rfl
      have e2q := HE.out 2 _ rfl
      have e3q := HE.out 3 _ rfl
      have e4q := HE.out 4 _ rfl
      have e5q := HE.out 5 _ rfl
      have HOW := hidI (own_setp (own_setp (own_setp (own_setp (own_setp (own_setp HOW0.out (p := ⟨w.heap.size + 1, 0, none⟩) (.bool false) (by show w.heap.size + 1 < _; omega)) (p := ⟨w.heap.size + 1, 1, none⟩) (.int .i64 0) (by show w.heap.size + 1 < _; omega)) (p := ⟨w.heap.size + 1, 2, none⟩) (.string ⟨#[]⟩) (by show w.heap.size + 1 < _; omega)) (p := ⟨w.heap.size + 1, 3, none⟩) (.bool false) (by show w.heap.size + 1 < _; omega)) (p := ⟨w.heap.size + 1, 4, none⟩) (.string nm) (by show w.heap.size + 1 < _; omega)) (p := ⟨w.heap.size + 1, 5, none⟩) (.int .i64 0) (by show w.heap.size + 1 < _; omega))
      refine bodyPost_ret (v := .tuple #[.agg #[.bool false, .int .i64 0, .string ⟨#[]⟩, .bool false, .string nm, .int .i64 0], .slice av ls.length cv]) (by simp [results, Tryz.results46, go_sem, e0q, e1q, e2q, e3q, e4q, e5q]) rfl ⟨?_, ((((((hBV.setCell (by simp) _).setCell (by simp) _).setCell (by simp) _).setCell (by simp) _).setCell (by simp) _).setCell (by simp) _)⟩
      rw [HN.out]
      exact ⟨_, rfl, own_low HOW.out (by omega)⟩
     | none =>
      simp only [Option.getD_none, Option.isNone_none] at he
      subst he
      clear hown
      go_wp2_with fail
      refine wp_region_held_drew (S := (fun u => (u.cell? ⟨H, 1, none⟩ = some (.map (some bT)) ∧ u.heap[bT]? = some (.map es2 ck2)) ∧ u.cell? ⟨wr.heap.size, 2, none⟩ = some (.string y.out))) (by kernel_rfl) ?_ (fun hHeld => ?_)
      · exact ⟨⟨t1, tm⟩, to⟩
      refine tk (i := 0) (oi := ⟨some 49, .move (.tmp 0), 97, _, _, none⟩) (v := ?_) rfl (by kernel_rfl) rfl ?e hHeld ?_
      case e => intro wq hSw; (try dsimp only at hSw); go_simp; try with_reducible rfl
      try simp only [qq]
      refine tk (i := 1) (oi := ⟨some 50, .nilCheck (.tmp 49), 0, _, _, none⟩) (v := ?_) rfl (by kernel_rfl) rfl ?e hHeld ?_
      case e => intro wq hSw; (try dsimp only at hSw); go_simp; try with_reducible rfl
      try simp only [qq]
      refine tk (i := 2) (oi := ⟨some 51, .fieldAddr 155 (.tmp 50) 1, 0, _, _, none⟩) (v := ?_) rfl (by kernel_rfl) rfl ?e hHeld ?_
      case e => intro wq hSw; (try dsimp only at hSw); go_simp; try with_reducible rfl
      try simp only [qq]
      refine tk (i := 3) (oi := ⟨some 52, .load 151 (.tmp 51), 151, _, _, none⟩) (v := ?_) rfl (by kernel_rfl) rfl ?e hHeld ?_
      case e => intro wq hSw; (try dsimp only at hSw); go_simp; try with_reducible rfl
      try simp only [qq]
      refine tk (i := 4) (oi := ⟨some 53, .fieldAddr 82 (.tmp 10) 2, 0, _, _, none⟩) (v := ?_) rfl (by kernel_rfl) rfl ?e hHeld ?_
      case e => intro wq hSw; (try dsimp only at hSw); go_simp; try with_reducible rfl
      try simp only [qq]
      refine tk (i := 5) (oi := ⟨some 54, .load 9 (.tmp 53), 9, _, _, none⟩) (v := ?_) rfl (by kernel_rfl) rfl ?e hHeld ?_
      case e => intro wq hSw; (try dsimp only at hSw); go_simp; try with_reducible rfl
      try simp only [qq]
      refine tk (i := 6) (oi := ⟨some 55, .lookup 151 (.tmp 52) (.tmp 54) true, 163, _, _, none⟩) (v := ?_) rfl (by kernel_rfl) rfl ?e hHeld ?_
      case e => intro wq hSw; (try dsimp only at hSw); have hq := HLY.out wq hSw.1.2; go_simp; try with_reducible rfl
      try simp only [qq]
      refine tk (i := 7) (oi := ⟨some 48, .move (.tmp 55), 163, _, _, none⟩) (v := ?_) rfl (by kernel_rfl) rfl ?e hHeld ?_
      case e => intro wq hSw; (try dsimp only at hSw); go_simp; try with_reducible rfl
      try simp only [qq]
      refine tk (i := 8) (oi := ⟨some 56, .extract (.tmp 48) 0, 157, _, _, none⟩) (v := ?_) rfl (by kernel_rfl) rfl ?e hHeld ?_
      case e => intro wq hSw; (try dsimp only at hSw); go_simp; try with_reducible rfl
      try simp only [qq]
      refine tk (i := 9) (oi := ⟨some 57, .extract (.tmp 48) 1, 4, _, _, none⟩) (v := ?_) rfl (by kernel_rfl) rfl ?e hHeld ?_
      case e => intro wq hSw; (try dsimp only at hSw); go_simp; try with_reducible rfl
      try simp only [qq]
      refine rd (i := 10) (o := ⟨some 14, .alloc 157, 0, _, _, none⟩) rfl (by kernel_rfl) (fun K hK => ?_)
      go_simp
      have hd3 : Below w2.heap.size w2 ((w2.alloc (.cells #[.string ⟨#[]⟩, .int .i64 0, .string ⟨#[]⟩] 157)).drew) := ((Below.refl _ _).alloc (Nat.le_refl _) _).drew
      have bB : Hid (BlkAt ((w2.alloc (.cells #[.string ⟨#[]⟩, .int .i64 0, .string ⟨#[]⟩] 157)).drew) w2.heap.size [.string ⟨#[]⟩, .int .i64 0, .string ⟨#[]⟩]) := hidI (blk_new w2 [.string ⟨#[]⟩, .int .i64 0, .string ⟨#[]⟩] 157)
      have oB : Hid (OpnAt ((w2.alloc (.cells #[.string ⟨#[]⟩, .int .i64 0, .string ⟨#[]⟩] 157)).drew) w2.heap.size) := hidI (opn_new w2 #[.string ⟨#[]⟩, .int .i64 0, .string ⟨#[]⟩] 157)
      have sB : w2.heap.size < ((w2.alloc (.cells #[.string ⟨#[]⟩, .int .i64 0, .string ⟨#[]⟩] 157)).drew).heap.size := by simp
      clear hHeld
      refine hK.out _ _ ⟨⟨(hd3.cell (p := ⟨H, 1, none⟩) (show H < w2.heap.size by omega)).trans t1, (hd3.block bT (show bT < w2.heap.size by omega)).trans tm⟩, (hd3.cell (p := ⟨wr.heap.size, 2, none⟩) (show wr.heap.size < w2.heap.size by omega)).trans to⟩ (fun hHeld => ?_)
      clear hK K
      try simp only [qq]
      generalize ((w2.alloc (.cells #[.string ⟨#[]⟩, .int .i64 0, .string ⟨#[]⟩] 157)).drew) = w3 at *
      refine rd (i := 11) (o := ⟨none, .store 157 (.tmp 14) (.tmp 56), 0, _, _, none⟩) rfl (by kernel_rfl) (fun K hK => ?_)
      refine step_store_blk rfl 157 (.tmp 14) (.tmp 56) rfl w2.heap.size 0 rfl [.string T0, .int .i64 C0, .string T1] rfl (blk_some bB.out rfl) oB.out (by simp [Value.oneCell']) (by kernel_rfl) rfl ?_
      clear hHeld
      refine st_over (old := [.string ⟨#[]⟩, .int .i64 0, .string ⟨#[]⟩]) (N := w2.heap.size) rfl bB.out oB.out (Nat.le_refl _) ?_
      intro E bE ZE OE hEs hE
      have hdE : Below w2.heap.size w2 E := hd3.trans bE
      refine hK.out _ _ ⟨⟨(hdE.cell (p := ⟨H, 1, none⟩) (show H < w2.heap.size by omega)).trans t1, (hdE.block bT (show bT < w2.heap.size by omega)).trans tm⟩, (hdE.cell (p := ⟨wr.heap.size, 2, none⟩) (show wr.heap.size < w2.heap.size by omega)).trans to⟩ (fun hHeld => ?_)
      clear hK K
      try simp only [qq]
      refine tk (i := 12) (oi := ⟨some 15, .assign (.tmp 57), 4, _, _, none⟩) (v := ?_) rfl (by kernel_rfl) rfl ?e hHeld ?_
      case e => intro wq hSw; (try dsimp only at hSw); go_simp; try with_reducible rfl
      try simp only [qq]
      refine wpAnyH_done (by kernel_rfl) ?_ _
      clear hHeld
      have HZE := hidI ZE
      have szE : w2.heap.size + 1 ≤ E.heap.size := by omega
      clear ZE OE hE bE bB oB hd3
      have hBE : Below w.heap.size w E := hBV.trans (hdE.mono hBV.size)
      have HOE := hidI (own_below HOW0.out hdE)
      replace BV := hidI (BV.out.below hdE (by omega))
      replace OV := hidI (OV.out.below hdE (by omega))
      replace hBV := hBE
      clear HOW0
      cases fl with
      | false =>
       have hfd : s.ts.find? (fun t => decide (sumS t s.wd = y.out)) = none := by
        rcases HFL.out with ⟨_, h⟩ | ⟨h, _⟩
        · exact h
        · cases h
       have HN := hidI (HJJ.out.trans (recQ_gone hq hfd))
       clear HJJ HFL
       go_wp2
       go_roundw
       case rel => exact ⟨k + 1, by omega, by go_num, HN, hb02.trans (hdE.mono hb02.size)⟩
       case measure => simp [Go.RowKit.intOf]; omega
      | true =>
       obtain ⟨t, hfd, rfl, rfl⟩ : ∃ t, s.ts.find? (fun t => decide (sumS t s.wd = y.out)) = some t ∧ C0 = hC t ∧ T1 = hT t := by
        rcases HFL.out with ⟨h, _⟩ | ⟨_, h⟩
        · cases h
        · exact h
       have HN := hidI (HJJ.out.trans (recQ_over hq hfd))
       clear HJJ HFL hfd hq
       generalize hC t = C1 at *
       generalize hT t = T2 at *
       have z1 := HZE.out 1 _ rfl
       have z2 := HZE.out 2 _ rfl
       have x0 := BV.out 0 _ rfl
       have fx0 := OV.out 0
       have x1 := BV.out 1 _ rfl
       have fx1 := OV.out 1
       have x2 := BV.out 2 _ rfl
       have fx2 := OV.out 2
       have x3 := BV.out 3 _ rfl
       have fx3 := OV.out 3
       have x4 := BV.out 4 _ rfl
       have fx4 := OV.out 4
       have x5 := BV.out 5 _ rfl
       have fx5 := OV.out 5
       go_wp2
       have HE := hidI (blk6 BV.out (.bool true) (.int .i64 C1) (.string T2) (.bool false) (.string ⟨#[]⟩) (.int .i64 0))
       have e0q := HE.out 0 _ rfl
       have e1q := HE.out 1 _ rfl
       have e2q := HE.out 2 _ rfl
       have e3q := HE.out 3 _ rfl
       have e4q := HE.out 4 _ rfl
       have e5q := HE.out 5 _ rfl
       have HOW := hidI (own_setp (own_setp (own_setp (own_setp (own_setp (own_setp HOE.out (p := ⟨w.heap.size + 1, 0, none⟩) (.bool true) (by show w.heap.size + 1 < _; omega)) (p := ⟨w.heap.size + 1, 1, none⟩) (.int .i64 C1) (by show w.heap.size + 1 < _; omega)) (p := ⟨w.heap.size + 1, 2, none⟩) (.string T2) (by show w.heap.size + 1 < _; omega)) (p := ⟨w.heap.size + 1, 3, none⟩) (.bool false) (by show w.heap.size + 1 < _; omega)) (p := ⟨w.heap.size + 1, 4, none⟩) (.string ⟨#[]⟩) (by show w.heap.size + 1 < _; omega)) (p := ⟨w.heap.size + 1, 5, none⟩) (.int .i64 0) (by show w.heap.size + 1 < _; omega))
       refine bodyPost_ret (v := .tuple #[.agg #[.bool true, .int .i64 C1, .string T2, .bool false, .string ⟨#[]⟩, .int .i64 0], .slice av ls.length cv]) (by simp [results, Tryz.results46, go_sem, e0q, e1q, e2q, e3q, e4q, e5q]) rfl ⟨?_, ((((((hBV.setCell (by simp) _).setCell (by simp) _).setCell (by simp) _).setCell (by simp) _).setCell (by simp) _).setCell (by simp) _)⟩
       rw [HN.out]
       exact ⟨_, rfl, own_low HOW.out (by omega)⟩
  · obtain rfl : k = (plc s.rs (keyR m)).length := by omega
    have HN : Hid (rclF s.wd s.ts (sightF fs ms ds) (keyR m) s.rs = an0) := by
     unfold Hid
     rw [HJ.out]
     have e : (s.rs.filter fun x => decide (x.key = keyR m)).length = (plc s.rs (keyR m)).length := by rw [← plc_map, List.length_map]
     rw [← e, List.drop_length]
     rfl
    have BV := hidI (B6.out.below hbr (by omega))
    have OV := hidI (O6.out.below hbr (by omega))
    have hBV : Below w.heap.size w wr := HW.out.trans (hbr.mono (by omega))
    clear HJ
    have x0 := BV.out 0 _ rfl
    have fx0 := OV.out 0
    have x1 := BV.out 1 _ rfl
    have fx1 := OV.out 1
    have x2 := BV.out 2 _ rfl
    have fx2 := OV.out 2
    have x3 := BV.out 3 _ rfl
    have fx3 := OV.out 3
    have x4 := BV.out 4 _ rfl
    have fx4 := OV.out 4
    have x5 := BV.out 5 _ rfl
    have fx5 := OV.out 5
    go_wp2
    have HE := hidI (blk6 BV.out (.bool false) (.int .i64 0) (.string ⟨#[]⟩) (.bool false) (.string ⟨#[]⟩) (.int .i64 0))
    have e0q := HE.out 0 _ rfl
    have e1q := HE.out 1 _ rfl
    have e2q := HE.out 2 _ rfl
    have e3q := HE.out 3 _ rfl
    have e4q := HE.out 4 _ rfl
    have e5q := HE.out 5 _ rfl
    have HOW := hidI (own_setp (own_setp (own_setp (own_setp (own_setp (own_setp (World.ownsRow_nil wr (w.heap.size + 2) 108 4) (p := ⟨w.heap.size + 1, 0, none⟩) (.bool false) (by show w.heap.size + 1 < _; omega)) (p := ⟨w.heap.size + 1, 1, none⟩) (.int .i64 0) (by show w.heap.size + 1 < _; omega)) (p := ⟨w.heap.size + 1, 2, none⟩) (.string ⟨#[]⟩) (by show w.heap.size + 1 < _; omega)) (p := ⟨w.heap.size + 1, 3, none⟩) (.bool false) (by show w.heap.size + 1 < _; omega)) (p := ⟨w.heap.size + 1, 4, none⟩) (.string ⟨#[]⟩) (by show w.heap.size + 1 < _; omega)) (p := ⟨w.heap.size + 1, 5, none⟩) (.int .i64 0) (by show w.heap.size + 1 < _; omega))
    refine bodyPost_ret (v := .tuple #[.agg #[.bool false, .int .i64 0, .string ⟨#[]⟩, .bool false, .string ⟨#[]⟩, .int .i64 0], .slice none 0 0]) (by simp [results, Tryz.results46, go_sem, e0q, e1q, e2q, e3q, e4q, e5q]) rfl ⟨?_, ((((((hBV.setCell (by simp) _).setCell (by simp) _).setCell (by simp) _).setCell (by simp) _).setCell (by simp) _).setCell (by simp) _)⟩
    rw [HN.out]
    exact ⟨_, rfl, own_low HOW.out (by omega)⟩
end Go.Proofs.YtboojefodbjbcaaGreatDoor
