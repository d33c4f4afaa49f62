import Derived.Test.YtkhlekmicpmpkaaGreatDoorProg
import Derived.Maps.OwnSet
import Derived.Maps.Ext
import Derived.Sort.KeysCollected
import Derived.Lib.SlKeysI
import Derived.Lib.SlMapMerge
namespace Go.Proofs.YtkhlekmicpmpkaaGreatDoor
open Go.RowKit Go.Maps
set_option linter.unusedVariables false
def tokR (v : Value) : Option (DataW Value × List MemPlace) := some (.held v, [])
def kS (s : ByteArray) : Lit := .string s.data.toList
def eS (p : ByteArray × Value) : Lit × DataW Value := (kS p.1, .held p.2)
def mapD (l : List (ByteArray × Value)) : DataW Value := .map (l.map eS)
def bef (a b : ByteArray) : Bool := bytesBefore a.data.toList b.data.toList
def insK (x : ByteArray × Value) : List (ByteArray × Value) → List (ByteArray × Value)
 | [] => [x]
 | y :: r => if bef x.1 y.1 then x :: y :: r else y :: insK x r
def Asc (l : List (ByteArray × Value)) : Prop := l.Pairwise fun p q => bef p.1 q.1 = true
def getK (l : List (ByteArray × Value)) (k : ByteArray) : Option Value := (l.find? fun p => decide (p.1 = k)).map (·.2)
theorem ba_data {a b : ByteArray} (h : a.data.toList = b.data.toList) : a = b := by
 apply ByteArray.ext
 exact Array.toList_inj.1 h
theorem kS_same (a b : ByteArray) : (kS a).sameKey (kS b) = decide (a = b) := by
 show (a.data.toList == b.data.toList) = decide (a = b)
 by_cases h : a = b
 · simp [h]
 · rw [decide_eq_false h]
   exact beq_eq_false_iff_ne.2 (fun e => h (ba_data e))
theorem mapD_at (l : List (ByteArray × Value)) (k : ByteArray) (z : DataW Value) : (mapD l).atKey (kS k) z = match getK l k with | some v => .held v | none => z := by
 unfold mapD DataW.atKey getK
 simp only [List.find?_map]
 have e : ((fun p : Lit × DataW Value => p.1.sameKey (kS k)) ∘ eS) = fun p => decide (p.1 = k) := funext fun p => kS_same p.1 k
 rw [e]
 cases List.find? (fun p : ByteArray × Value => decide (p.1 = k)) l <;> rfl
theorem mapD_has (l : List (ByteArray × Value)) (k : ByteArray) : has (mapD l) (kS k) = (getK l k).isSome := by
 show (l.map eS).any (fun p => p.1.sameKey (kS k)) = _
 rw [List.any_map]
 have e : ((fun p : Lit × DataW Value => p.1.sameKey (kS k)) ∘ eS) = fun p => decide (p.1 = k) := funext fun p => kS_same p.1 k
 rw [e]
 unfold getK
 rw [Option.isSome_map, Bool.eq_iff_iff]
 simp
theorem mapD_size (l : List (ByteArray × Value)) : size (mapD l) = l.length := by
 show (l.map eS).length = _
 simp
theorem mapD_keys (l : List (ByteArray × Value)) : strKeys (mapD l) = l.map fun p => p.1.data.toList := by
 show (l.map eS).map _ = _
 simp [eS, kS, strOf, Function.comp_def]
theorem insK_eS (x : ByteArray × Value) (l : List (ByteArray × Value)) : (insK x l).map eS = DataW.insert (eS x) (l.map eS) := by
 induction l with
 | nil => rfl
 | cons y r ih =>
  unfold insK
  show _ = if (kS x.1).before (kS y.1) = true then _ else _
  show List.map eS (if bytesBefore x.1.data.toList y.1.data.toList = true then _ else _) = if bytesBefore x.1.data.toList y.1.data.toList = true then _ else _
  split
  · rfl
  · simp [ih]
theorem getK_none {l : List (ByteArray × Value)} {k : ByteArray} : getK l k = none ↔ ∀ p ∈ l, p.1 ≠ k := by
 unfold getK
 simp
theorem mapD_put {l : List (ByteArray × Value)} {k : ByteArray} (v : Value) (h : getK l k = none) : (mapD l).put (kS k) (.held v) = mapD (insK (k, v) l) := by
 show DataW.map (DataW.insert (eS (k, v)) ((l.map eS).filter fun p => !p.1.sameKey (kS k))) = DataW.map ((insK (k, v) l).map eS)
 rw [insK_eS]
 congr 2
 rw [List.filter_eq_self]
 intro p hp
 obtain ⟨q, hq, rfl⟩ := List.mem_map.1 hp
 show (!(kS q.1).sameKey (kS k)) = true
 rw [kS_same, decide_eq_false (getK_none.1 h q hq)]
 rfl
theorem insK_perm (x : ByteArray × Value) (l : List (ByteArray × Value)) : (insK x l).Perm (x :: l) := by
 induction l with
 | nil => exact List.Perm.refl _
 | cons y r ih =>
  unfold insK
  split
  · exact List.Perm.refl _
  · exact (ih.cons y).trans (List.Perm.swap x y r)
theorem bef_irr (a : ByteArray) : bef a a = false := WideAt.bytes_irrefl _
theorem bef_tr {a b c : ByteArray} (h : bef a b = true) (h' : bef b c = true) : bef a c = true := WideShapes.bytes_trans _ _ _ h h'
theorem bef_tot {a b : ByteArray} (h : a ≠ b) : bef a b = true ∨ bef b a = true := WideAt.bytes_total _ _ (fun e => h (ba_data e))
theorem insK_asc {x : ByteArray × Value} {l : List (ByteArray × Value)} (h : Asc l) (hx : ∀ p ∈ l, p.1 ≠ x.1) : Asc (insK x l) := by
 induction l with
 | nil => exact List.pairwise_singleton _ _
 | cons y r ih =>
  have h' := List.pairwise_cons.1 h
  unfold insK
  split
  · rename_i hb
    exact List.pairwise_cons.2 ⟨fun p hp => by
     rcases List.mem_cons.1 hp with rfl | hp
     · exact hb
     · exact bef_tr hb (h'.1 p hp), h⟩
  · rename_i hb
    have hyx : bef y.1 x.1 = true := (bef_tot (hx y (List.mem_cons_self ..))).elim id (fun e => absurd e hb)
    refine List.pairwise_cons.2 ⟨fun p hp => ?_, ih h'.2 (fun p hp => hx p (List.mem_cons_of_mem _ hp))⟩
    rcases List.mem_cons.1 ((insK_perm x r).mem_iff.1 hp) with rfl | hp
    · exact hyx
    · exact h'.1 p hp
theorem asc_eq {l l' : List (ByteArray × Value)} (h : Asc l) (h' : Asc l') (hp : l.Perm l') : l = l' := by
 refine List.Perm.eq_of_pairwise (le := fun (p q : ByteArray × Value) => bef p.1 q.1 = true) (fun a b _ _ h1 h2 => ?_) h h' hp
 have := bef_tr h1 h2
 rw [bef_irr] at this
 cases this
theorem getK_mem {l : List (ByteArray × Value)} {k : ByteArray} {v : Value} (h : getK l k = some v) : (k, v) ∈ l := by
 unfold getK at h
 obtain ⟨p, hp, rfl⟩ := Option.map_eq_some_iff.1 h
 have h1 := List.mem_of_find?_eq_some hp
 have h2 := List.find?_some hp
 simp at h2
 rw [← h2]
 exact h1
theorem getK_asc {l : List (ByteArray × Value)} (h : Asc l) {k : ByteArray} {v : Value} (hm : (k, v) ∈ l) : getK l k = some v := by
 induction l with
 | nil => cases hm
 | cons y r ih =>
  have h' := List.pairwise_cons.1 h
  rcases List.mem_cons.1 hm with rfl | hm
  · simp [getK]
  · have hne : y.1 ≠ k := fun e => by
     have := h'.1 _ hm
     rw [e] at this
     simp only [bef_irr] at this
     cases this
    have hr := ih h'.2 hm
    unfold getK at hr ⊢
    rw [List.find?_cons_of_neg (by simpa using hne)]
    exact hr
theorem mapD_merge (f l : List (ByteArray × Value)) (hf : Asc f) (hl : Asc l) (hd : ∀ p ∈ f, getK l p.1 = none) : Asc (f.foldl (fun acc p => insK p acc) l) ∧ (f.foldl (fun acc p => insK p acc) l).Perm (f ++ l) ∧ Lib.mergeD (mapD l) (mapD f) = mapD (f.foldl (fun acc p => insK p acc) l) := by
 show _ ∧ _ ∧ (f.map eS).foldl (fun D p => D.put p.1 p.2) (mapD l) = _
 induction f generalizing l with
 | nil => exact ⟨hl, List.Perm.refl _, rfl⟩
 | cons y r ih =>
  have h' := List.pairwise_cons.1 hf
  have hy := hd y (List.mem_cons_self ..)
  obtain ⟨i1, i2, i3⟩ := ih (insK y l) h'.2 (insK_asc hl (getK_none.1 hy)) (fun p hp => getK_none.2 (fun q hq => by
   rcases List.mem_cons.1 ((insK_perm y l).mem_iff.1 hq) with rfl | hq
   · intro e
     have := h'.1 p hp
     rw [e, bef_irr] at this
     cases this
   · exact getK_none.1 (hd p (List.mem_cons_of_mem _ hp)) q hq))
  refine ⟨i1, ?_, ?_⟩
  · show (List.foldl (fun acc p => insK p acc) (insK y l) r).Perm (y :: (r ++ l))
    exact i2.trans (((insK_perm y l).append_left r).trans List.perm_middle)
  · show (r.map eS).foldl (fun D p => D.put p.1 p.2) ((mapD l).put (kS y.1) (.held y.2)) = _
    rw [mapD_put y.2 hy]
    exact i3
theorem bytes_lt : ∀ (a b : List UInt8), bytesBefore a b = true → a ≤ b
 | [], _, _ => List.nil_le _
 | _ :: _, [], h => by simp [bytesBefore] at h
 | x :: r, y :: s, h => by
  simp [bytesBefore] at h
  rcases h with h | ⟨rfl, h⟩
  · exact List.le_of_lt (List.Lex.rel h)
  · exact List.cons_le_cons_iff.2 (.inr ⟨rfl, bytes_lt r s h⟩)
theorem keys_sorted {l : List (ByteArray × Value)} (h : Asc l) {ss : List (List UInt8)} (hp : ss.Perm (strKeys (mapD l))) : ss.mergeSort (fun x y => decide (x ≤ y)) = l.map fun p => p.1.data.toList := by
 rw [mapD_keys] at hp
 have e := mergeSort_of_perm hp
 show ss.mergeSort leB = _
 rw [e]
 apply List.mergeSort_of_pairwise
 refine List.pairwise_map.2 (h.imp fun {p q} hb => ?_)
 simpa [leB] using bytes_lt _ _ hb
def iE (i : Nat) (v : Value) : Lit × DataW Value := (.int .i64 i, .held v)
def intD (vs : List Value) : DataW Value := .map ((List.range vs.length).map fun i => iE i (vs.getD i undef))
theorem intD_size (vs : List Value) : size (intD vs) = vs.length := by
 show ((List.range vs.length).map fun i => iE i (vs.getD i undef)).length = _
 simp
theorem intD_keys (vs : List Value) : intKeys (intD vs) = (List.range vs.length).map fun i : Nat => (i : Int) := by
 show ((List.range vs.length).map fun i => iE i (vs.getD i undef)).map _ = _
 simp [iE, intOf, Function.comp_def]
theorem intD_at (vs : List Value) (k : Nat) (z : DataW Value) : (intD vs).atKey (.int .i64 k) z = if k < vs.length then .held (vs.getD k undef) else z := by
 unfold intD DataW.atKey
 simp only [List.find?_map]
 have e : ((fun p : Lit × DataW Value => p.1.sameKey (.int .i64 k)) ∘ fun i => iE i (vs.getD i undef)) = fun i => decide (i = k) := funext fun i => by simp [iE, Lit.sameKey]; omega
 rw [e]
 by_cases h : k < vs.length
 · rw [if_pos h]
   have : List.find? (fun i => decide (i = k)) (List.range vs.length) = some k := by
    cases hq : List.find? (fun i => decide (i = k)) (List.range vs.length) with
    | none => exact absurd (List.find?_eq_none.1 hq k (List.mem_range.2 h)) (by simp)
    | some j => have := List.find?_some hq; simp at this; rw [this]
   rw [this]
   rfl
 · rw [if_neg h]
   have : List.find? (fun i => decide (i = k)) (List.range vs.length) = none := List.find?_eq_none.2 (fun j hj => by have := List.mem_range.1 hj; simp; omega)
   rw [this]
   rfl
theorem ins_last (x : Lit × DataW Value) (l : List (Lit × DataW Value)) (h : ∀ p ∈ l, x.1.before p.1 = false) : DataW.insert x l = l ++ [x] := by
 induction l with
 | nil => rfl
 | cons y r ih =>
  unfold DataW.insert
  rw [h y (List.mem_cons_self ..), ih (fun p hp => h p (List.mem_cons_of_mem _ hp))]
  simp
theorem intD_put (vs : List Value) (v : Value) : (intD vs).put (.int .i64 vs.length) (.held v) = intD (vs ++ [v]) := by
 show DataW.map (DataW.insert (iE vs.length v) (((List.range vs.length).map fun i => iE i (vs.getD i undef)).filter fun p => !p.1.sameKey (.int .i64 vs.length))) = DataW.map ((List.range (vs ++ [v]).length).map fun i => iE i ((vs ++ [v]).getD i undef))
 congr 1
 rw [List.filter_eq_self.2, ins_last]
 · rw [List.length_append, List.length_singleton, List.range_succ, List.map_append]
   congr 1
   · apply List.map_congr_left
     intro i hi
     have := List.mem_range.1 hi
     unfold iE
     simp [List.getD, List.getElem?_append_left this]
   · simp [iE, List.getD]
 · intro p hp
   obtain ⟨i, hi, rfl⟩ := List.mem_map.1 hp
   have := List.mem_range.1 hi
   show decide ((vs.length : Int) < (i : Int)) = false
   simp
   omega
 · intro p hp
   obtain ⟨i, hi, rfl⟩ := List.mem_map.1 hp
   have := List.mem_range.1 hi
   simp [iE, Lit.sameKey]
   omega
theorem ints_sorted {vs : List Value} {ss : List Int} (hp : ss.Perm (intKeys (intD vs))) : ss.mergeSort (fun x y => decide (x ≤ y)) = (List.range vs.length).map fun i : Nat => (i : Int) := by
 rw [intD_keys] at hp
 have e := mergeSort_of_perm_i hp
 show ss.mergeSort leI = _
 rw [e]
 apply List.mergeSort_of_pairwise
 refine List.pairwise_map.2 (List.pairwise_lt_range.imp fun {p q} hb => ?_)
 simp [leI]
 omega
end Go.Proofs.YtkhlekmicpmpkaaGreatDoor
