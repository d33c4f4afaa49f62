import Derived.Test.YtkhlekmicpmpkaaGreatDoorZK07
import Derived.WalkKit
import Derived.WalkSpells
import Derived.WalkLawsBesides
import Derived.Laws.BytesArg
import Derived.Deep.RegionWith
import Derived.Deep.QuietTactic
import Derived.BigQuiet
import Derived.Laws.BitsAllLaws
import Derived.Deep.RegionLaw
import Derived.Deep.RegionHeld3
import Derived.Laws.Cover1
namespace Go.Proofs.YtkhlekmicpmpkaaGreatDoor
open Go.RowKit
set_option maxRecDepth 100000
structure M3 where
 nm : ByteArray
 tl : ByteArray
 ar : ByteArray
def M3.v (x : M3) : Value := .agg #[.string x.nm, .string x.tl, .string x.ar]
def M3.le (x : M3) (B : Nat) : Prop := x.nm.size ≤ B ∧ x.tl.size ≤ B ∧ x.ar.size ≤ B
end Go.Proofs.YtkhlekmicpmpkaaGreatDoor
namespace Go.Proofs.YtkhlekmicpmpkaaGreatDoor
open Go.RowKit
set_option maxRecDepth 100000
structure L4 where
 has : Bool
 nm : ByteArray
 cd : Int
 tx : ByteArray
def l4z : L4 := ⟨false, ⟨#[]⟩, 0, ⟨#[]⟩⟩
def L4.le (x : L4) (B : Nat) : Prop := x.nm.size ≤ B ∧ x.tx.size ≤ B
def LksAt (w : World) (a : Option Addr) (is : List L4) : Prop :=
 is = [] ∨ ∃ b off, a = some ⟨b, off, none⟩ ∧ b < w.heap.size ∧ ∀ i, i < is.length → w.cell? ⟨b, off + i * 4, none⟩ = some (.bool (is.getD i l4z).has) ∧ w.cell? ⟨b, off + i * 4 + 1, none⟩ = some (.string (is.getD i l4z).nm) ∧ w.cell? ⟨b, off + i * 4 + 2, none⟩ = some (.int .i64 (is.getD i l4z).cd) ∧ w.cell? ⟨b, off + i * 4 + 3, none⟩ = some (.string (is.getD i l4z).tx)
theorem lks_some {w : World} {a : Option Addr} {is : List L4} (h : LksAt w a is) : ∃ b off, (is = [] ∨ (a = some ⟨b, off, none⟩ ∧ b < w.heap.size ∧ ∀ i, i < is.length → w.cell? ⟨b, off + i * 4, none⟩ = some (.bool (is.getD i l4z).has) ∧ w.cell? ⟨b, off + i * 4 + 1, none⟩ = some (.string (is.getD i l4z).nm) ∧ w.cell? ⟨b, off + i * 4 + 2, none⟩ = some (.int .i64 (is.getD i l4z).cd) ∧ w.cell? ⟨b, off + i * 4 + 3, none⟩ = some (.string (is.getD i l4z).tx))) := by
 rcases h with h | ⟨b, off, h⟩
 · exact ⟨0, 0, .inl h⟩
 · exact ⟨b, off, .inr h⟩
theorem lks_below {w w' : World} {a : Option Addr} {is : List L4} (h : LksAt w a is) (hb : Below w.heap.size w w') : LksAt w' a is := by
 rcases h with h | ⟨b, off, h1, h2, h3⟩
 · exact .inl h
 · exact .inr ⟨b, off, h1, Nat.lt_of_lt_of_le h2 hb.size, fun i hi => by rw [hb.cell (by exact h2), hb.cell (by exact h2), hb.cell (by exact h2), hb.cell (by exact h2)]; exact h3 i hi⟩
theorem getD_smallL {is : List L4} {B : Nat} (h : ∀ i, i < is.length → (is.getD i l4z).le B) (i : Nat) : (is.getD i l4z).le B := by
 rcases Nat.lt_or_ge i is.length with h' | h'
 · exact h i h'
 · have e : is.getD i l4z = l4z := by simp [List.getD, List.getElem?_eq_none h']
   rw [e]; exact ⟨Nat.zero_le _, Nat.zero_le _⟩
set_option maxHeartbeats 1000000 in
theorem c38 (x : L4) (w : World) :
 Calls Tryz.prog 38 #[.agg #[.bool x.has, .string x.nm, .int .i64 x.cd, .string x.tx], .agg #[.bool x.has, .string x.nm, .int .i64 x.cd, .string x.tx]] w fun e w' => e = .returned (.bool true) ∧ Below w.heap.size w w' := by
 go_enter Tryz.func38, Tryz.ntmps38
 go_wp2_with fail
 have hB : ∀ o1 o2, Below w.heap.size w ((w.alloc o1).alloc o2) := fun o1 o2 => ((Below.refl _ _).alloc (Nat.le_refl _) _).alloc (by simp) _
 refine (c71 x.cd x.tx _).mono ?_
 rintro e w1 ⟨rfl, hb1⟩
 go_wp2
 go_ret
 exact ⟨rfl, (hB _ _).trans (hb1.mono (by simp; omega))⟩
end Go.Proofs.YtkhlekmicpmpkaaGreatDoor
namespace Go.Proofs.YtkhlekmicpmpkaaGreatDoor
open Go.RowKit
set_option maxRecDepth 100000
theorem ret_str {a b : ByteArray} (h : a = b) : Ending.returned (.string a) = .returned (.string b) := by rw [h]
end Go.Proofs.YtkhlekmicpmpkaaGreatDoor
namespace Go.Proofs.YtkhlekmicpmpkaaGreatDoor
open Go.RowKit
set_option maxRecDepth 100000
theorem step_app {P : Program} {ops : Array Oper} {o : Oper} {a : Act} {w : World} {K : Act → World → Prop} {Q : Exit → Act → World → Prop} {E : Prop}
 (hg : o.guard = none) (s x : Operand) (t : TypeId) (hop : o.op = Op.call { callee := Callee.builtin Builtin.append, args := #[s, x], argTypes := #[t, t] })
 (base : Nat) (e : TypeId) (i : TypeInfo) (z : Value) (size bytes : Nat) (h1 : P.underlying t = some (.slice e)) (h2 : P.info? e = some i) (h3 : i.zero = some z) (h4 : i.size = size) (h5 : i.bytes = bytes) (h6 : z.cells.size = size) (h7 : 0 < size)
 (v : Value) (n : Nat) (xs : List Value) (hs : a.eval s = v) (hown : w.ownsRow base e size v n xs)
 (ad : Addr) (m c : Nat) (news : List Value) (hx : a.eval x = .slice (some ad) m c) (hn : news.length = m * size) (hc : ∀ j u, news[j]? = some u → w.cell? (ad.add j) = some u) (h1c : ∀ u ∈ news, u.oneCell' = true)
 (b1 : n + m ≤ maxLen) (b2 : (n + m) * bytes ≤ 140737488355328) (hb : base ≤ w.heap.size)
 (hK : ∀ v' w', w'.ownsRow base e size v' (n + m) (xs ++ news) → w.grownBy w' v.ownBlock → K (a.put o.dst v') w') :
 if Region.wanted o (yielded ops a.tmps) = true then Oper.wp P o a w K Q else E := by
 have hw : Region.wanted o (yielded ops a.tmps) = true := by simp [Region.wanted, hg]
 rw [if_pos hw]
 obtain ⟨v', w', hrun, r1, r2, _⟩ := run_append_own (P := P) w base t o.type e i z size bytes h1 h2 h3 h4 h5 h6 h7 v n xs hown ad m c news hn hc h1c b1 b2 hb
 unfold Oper.wp
 simp [execOp, hop, resolve, invoke, builtin, hs, hx, hrun, Result.andThen]
 exact hK v' w' r1 r2
end Go.Proofs.YtkhlekmicpmpkaaGreatDoor
namespace Go.Proofs.YtkhlekmicpmpkaaGreatDoor
set_option linter.unusedSimpArgs false
open Go.RowKit
set_option maxRecDepth 100000
def okM (x : M3) : Bool := nameOk x.nm.data.toList && nameOk x.tl.data.toList && decide ((x.ar.size : Int) ≤ 300)
set_option maxHeartbeats 1000000 in
theorem c49 (x : M3) (w : World) (hs : x.le 1048700) :
 Calls Tryz.prog 49 #[.agg #[.string x.nm, .string x.tl, .string x.ar]] w fun e w' => e = .returned (.bool (okM x)) ∧ Below w.heap.size w w' := by
 have HF : Hid (okM x = (nameOk x.nm.data.toList && nameOk x.tl.data.toList && decide ((x.ar.size : Int) ≤ 300))) := rfl
 obtain ⟨h1, h2, h3⟩ := hs
 go_enter Tryz.func49, Tryz.ntmps49
 go_wp2_with fail
 refine (c48 _ _ h1).mono ?_
 rintro e w1 ⟨rfl, rfl⟩
 cases hn : nameOk x.nm.data.toList
 · rw [hn] at HF
   go_wp2
   all_goals go_ret
   all_goals exact ⟨ret_bool (by rw [HF.out]; simp), (Below.refl _ _).alloc (Nat.le_refl _) _⟩
 · rw [hn] at HF
   go_wp2_with fail
   refine (c48 _ _ h2).mono ?_
   rintro e w1 ⟨rfl, rfl⟩
   cases hm : nameOk x.tl.data.toList
   all_goals
    rw [hm] at HF
    go_wp2
    all_goals go_ret
    all_goals exact ⟨ret_bool (by rw [HF.out]; simp), (Below.refl _ _).alloc (Nat.le_refl _) _⟩
set_option maxHeartbeats 1000000 in
theorem c60 (x : M3) (w : World) (hs : x.le 1048700) :
 Calls Tryz.prog 60 #[.agg #[.string x.nm, .string x.tl, .string x.ar]] w fun e w' => e = .returned (.bool (okM x)) ∧ Below w.heap.size w w' := by
 have HF : Hid (okM x = (nameOk x.nm.data.toList && nameOk x.tl.data.toList && decide ((x.ar.size : Int) ≤ 300))) := rfl
 obtain ⟨h1, h2, h3⟩ := hs
 go_enter Tryz.func60, Tryz.ntmps60
 go_wp2_with fail
 refine (c85 _ _ h1).mono ?_
 rintro e w1 ⟨rfl, rfl⟩
 cases hn : nameOk x.nm.data.toList
 · rw [hn] at HF
   go_wp2
   all_goals go_ret
   all_goals exact ⟨ret_bool (by rw [HF.out]; simp), (Below.refl _ _).alloc (Nat.le_refl _) _⟩
 · rw [hn] at HF
   go_wp2_with fail
   refine (c85 _ _ h2).mono ?_
   rintro e w1 ⟨rfl, rfl⟩
   cases hm : nameOk x.tl.data.toList
   all_goals
    rw [hm] at HF
    go_wp2
    all_goals go_ret
    all_goals exact ⟨ret_bool (by rw [HF.out]; simp), (Below.refl _ _).alloc (Nat.le_refl _) _⟩
theorem c60v {x : M3} {v : Bool} (hv : okM x = v) (w : World) (hs : x.le 1048700) :
 Calls Tryz.prog 60 #[.agg #[.string x.nm, .string x.tl, .string x.ar]] w fun e w' => e = .returned (.bool v) ∧ Below w.heap.size w w' := hv ▸ c60 x w hs
end Go.Proofs.YtkhlekmicpmpkaaGreatDoor
namespace Go.Proofs.YtkhlekmicpmpkaaGreatDoor
open Go.RowKit
set_option maxRecDepth 100000
structure But (b : Nat) (w w' : World) : Prop where
 os : w'.os = w.os
 tape : w'.tape = w.tape
 output : w'.output = w.output
 size : w.heap.size ≤ w'.heap.size
 block : ∀ k, k < w.heap.size → k ≠ b → w'.heap[k]? = w.heap[k]?
theorem But.refl (b : Nat) (w : World) : But b w w := ⟨rfl, rfl, rfl, Nat.le_refl _, fun _ _ _ => rfl⟩
theorem But.trans {b : Nat} {u v w : World} (h : But b u v) (k : But b v w) : But b u w :=
 ⟨k.os.trans h.os, k.tape.trans h.tape, k.output.trans h.output, Nat.le_trans h.size k.size, fun i hi hne => (k.block i (Nat.lt_of_lt_of_le hi h.size) hne).trans (h.block i hi hne)⟩
theorem But.of_below {b : Nat} {w w' : World} (h : Below w.heap.size w w') : But b w w' := ⟨h.os, h.tape, h.output, h.size, fun k hk _ => h.block k hk⟩
theorem But.below {b B : Nat} {w w' : World} (h : But b w w') (hB : B ≤ b) (hz : B ≤ w.heap.size) : Below B w w' := ⟨h.os, h.tape, h.output, h.size, fun k hk => h.block k (by omega) (by omega)⟩
theorem But.setCell {b : Nat} {w w' : World} (h : But b w w') (j : Nat) (v : Value) : But b w (w'.setCell ⟨b, j, none⟩ v) := by
 have k := (Below.refl b w').setCell (p := ⟨b, j, none⟩) (Nat.le_refl _) v
 refine ⟨k.os.trans h.os, k.tape.trans h.tape, k.output.trans h.output, Nat.le_trans h.size k.size, fun i hi hne => ?_⟩
 rw [← h.block i hi hne]
 exact Below.heap_setCell _ _ _ _ hne
theorem But.cell {b : Nat} {w w' : World} (h : But b w w') {p : Addr} (hp : p.block < w.heap.size) (hne : p.block ≠ b) : w'.cell? p = w.cell? p := by
 unfold World.cell?
 rw [h.block p.block hp hne]
theorem cat_ofL (a b : List UInt8) : ofL a ++ ofL b = ofL (a ++ b) := by apply ByteArray.ext; simp [ofL]
theorem one_ofL (c : UInt8) : (⟨#[c]⟩ : ByteArray) = ofL [c] := rfl
theorem cons_ofL (x : Int) (l : List UInt8) : strOfNums [x] ++ ofL l = ofL (UInt8.ofNat x.toNat :: l) := by
 apply ByteArray.ext
 simp [ofL, strOfNums]
set_option maxHeartbeats 400000 in
theorem c41 (K : Int) (w : World) (h1 : 1 ≤ K) (h2 : K ≤ 10000000) :
 Calls Tryz.prog 41 #[.int .i64 K] w fun e w' => e = .returned (.string (ofL (109 :: dec K))) ∧ Below w.heap.size w w' := by
 have hcv := conv1
 have hcd := convD
 have hz : ∀ y, (strOfNums [y]).size = 1 := fun y => strOfNums_size [y]
 have hdl := dec_len K (by omega) (by omega)
 go_enter Tryz.func41, Tryz.ntmps41
 go_wp2_with fail
 go_loopw [0, 3] (fun k o wr => ∃ (m : Int) (l : List UInt8), 0 ≤ m ∧ m ≤ 10000000 ∧ k = .int .i64 m ∧ o = .string (ofL l) ∧ Hid (dec K = if m = 0 then l else dec m ++ l) ∧ Below w.heap.size w wr) (fun k _ _ => (intOf k).toNat)
 case atStart => exact ⟨K, [], by omega, h2, rfl, rfl, by rw [if_neg (by omega)]; simp [Hid], Below.refl _ _⟩
 case round =>
  obtain ⟨m, l, hm0, hm1, rfl, rfl, hl, hb⟩ := hrel
  by_cases hlt : 0 < m
  · have hsz : (ofL l).size ≤ 100000001 := by
     have := hl.out
     rw [if_neg (by omega)] at this
     have := congrArg List.length this
     rw [List.length_append] at this
     rw [ofL_size]; omega
    have HN : Hid (dec K = if m / 10 = 0 then UInt8.ofNat (48 + m % 10).toNat :: l else dec (m / 10) ++ (UInt8.ofNat (48 + m % 10).toNat :: l)) := by
     have h := hl.out
     rw [if_neg (by omega)] at h
     by_cases h10 : m < 10
     · rw [dec_lt m h10] at h
       rw [if_pos (by omega), show m % 10 = m by omega]
       exact h
     · rw [dec_ge m (by omega)] at h
       rw [if_neg (by omega)]
       exact h.trans (by simp)
    go_wp2
    go_roundw
    case rel => exact ⟨m / 10, _, by omega, by omega, rfl, by rw [cons_ofL], HN, hb.alloc hb.size _⟩
    case measure => simp [intOf]; omega
  · obtain rfl : m = 0 := by omega
    have HN : Hid (dec K = l) := by have h := hl.out; rwa [if_pos rfl] at h
    have hsz : (ofL l).size ≤ 100000001 := by rw [ofL_size, ← HN.out]; exact hdl
    go_wp2
    go_ret
    exact ⟨ret_str (by rw [HN.out]; simp only [one_ofL, cat_ofL]; rfl), hb⟩
def mkL (K : Int) (i : Nat) : L4 := ⟨((K + 4 * (i : Int)) % 3 == 0), ofL (109 :: dec (K + 4 * (i : Int) + 1)), K + 4 * (i : Int) + 2, ofL (109 :: dec (K + 4 * (i : Int) + 3))⟩
def MarksAt (K : Int) (w : World) (b k : Nat) : Prop := ∀ j, j < k → w.cell? ⟨b, j * 4, none⟩ = some (.bool (mkL K j).has) ∧ w.cell? ⟨b, j * 4 + 1, none⟩ = some (.string (mkL K j).nm) ∧ w.cell? ⟨b, j * 4 + 2, none⟩ = some (.int .i64 (mkL K j).cd) ∧ w.cell? ⟨b, j * 4 + 3, none⟩ = some (.string (mkL K j).tx)
def Open4 (w : World) (b n : Nat) : Prop := b < w.heap.size ∧ (∀ j, j < n * 4 → ∃ v, w.cell? ⟨b, j, none⟩ = some v) ∧ ∀ j, w.frozen? ⟨b, j, none⟩ = false
theorem Open4.below {w w' : World} {b n : Nat} (h : Open4 w b n) (hb : Below w.heap.size w w') : Open4 w' b n :=
 ⟨Nat.lt_of_lt_of_le h.1 hb.size, fun j hj => by rw [hb.cell (by exact h.1)]; exact h.2.1 j hj, fun j => by rw [hb.frozen (by exact h.1)]; exact h.2.2 j⟩
theorem Open4.set {w : World} {b n j : Nat} {v : Value} (h : Open4 w b n) (hj : j < n * 4) : Open4 (w.setCell ⟨b, j, none⟩ v) b n := by
 refine ⟨by simpa using h.1, fun i hi => ?_, fun i => by have := h.2.2 i; simpa using this⟩
 by_cases e : i = j
 · subst e
   obtain ⟨x, hx⟩ := h.2.1 i hi
   exact ⟨v, World.cell?_setCell_same _ _ _ hx⟩
 · rw [World.cell?_setCell_other _ _ _ _ (adr_ne (Ne.symm e))]
   exact h.2.1 i hi
theorem marks_below {K : Int} {w w' : World} {b k : Nat} (h : MarksAt K w b k) (hlt : b < w.heap.size) (hb : Below w.heap.size w w') : MarksAt K w' b k := by
 intro j hj
 rw [hb.cell (by exact hlt), hb.cell (by exact hlt), hb.cell (by exact hlt), hb.cell (by exact hlt)]
 exact h j hj
theorem marks_set {K : Int} {w : World} {b k j : Nat} {v : Value} (h : MarksAt K w b k) (hj : k * 4 ≤ j) : MarksAt K (w.setCell ⟨b, j, none⟩ v) b k := by
 intro i hi
 rw [World.cell?_setCell_other _ _ _ _ (adr_ne (by omega)), World.cell?_setCell_other _ _ _ _ (adr_ne (by omega)), World.cell?_setCell_other _ _ _ _ (adr_ne (by omega)), World.cell?_setCell_other _ _ _ _ (adr_ne (by omega))]
 exact h i hi
theorem marks_snoc {K : Int} {w : World} {b k : Nat} (h : MarksAt K w b k) (h0 : w.cell? ⟨b, k * 4, none⟩ = some (.bool (mkL K k).has)) (h1 : w.cell? ⟨b, k * 4 + 1, none⟩ = some (.string (mkL K k).nm)) (h2 : w.cell? ⟨b, k * 4 + 2, none⟩ = some (.int .i64 (mkL K k).cd)) (h3 : w.cell? ⟨b, k * 4 + 3, none⟩ = some (.string (mkL K k).tx)) : MarksAt K w b (k + 1) := by
 intro i hi
 by_cases e : i = k
 · subst e; exact ⟨h0, h1, h2, h3⟩
 · exact h i (by omega)
set_option maxHeartbeats 2000000 in
theorem c17 (K : Int) (a : Option Addr) (b n cap : Nat) (w : World) (hK1 : 1 ≤ K) (hK2 : K ≤ 5000000) (ha : n = 0 ∨ a = some ⟨b, 0, none⟩) (hn : n ≤ 1048576) (ho : Open4 w b n) :
 Calls Tryz.prog 17 #[.slice a n cap, .int .i64 K] w fun e w' => e = .returned (.int .i64 (K + 4 * (n : Int))) ∧ But b w w' ∧ Open4 w' b n ∧ MarksAt K w' b n := by
 have HO : Hid (Open4 w b n) := ho
 clear ho
 go_enter Tryz.func17, Tryz.ntmps17
 go_wp2_with fail
 go_loopw [1, 5] (fun q i wr => ∃ (k : Nat), k ≤ n ∧ i = .int .i64 k ∧ q = .int .i64 (K + 4 * (k : Int)) ∧ But b w wr ∧ Hid (Open4 wr b n) ∧ Hid (MarksAt K wr b k)) (fun _ i _ => n - (intOf i).toNat)
 case atStart => exact ⟨0, Nat.zero_le _, rfl, by simp, But.refl _ _, HO, fun j h => absurd h (Nat.not_lt_zero _)⟩
 case round =>
  obtain ⟨k, hk, rfl, rfl, hb, hop, hmk⟩ := hrel
  by_cases hlt : k < n
  · rcases ha with ha | rfl
    · omega
    obtain ⟨v0, g0⟩ := hop.out.2.1 (k * 4) (by omega)
    have f0 := hop.out.2.2 (k * 4)
    go_wp2_with fail
    refine (c41 _ _ (by omega) (by omega)).mono ?_
    rintro e w1 ⟨rfl, hb1⟩
    have HS0 : Open4 (wr.setCell ⟨b, k * 4, none⟩ (.bool ((K + 4 * (k : Int)) % 3 == 0))) b n := hop.out.set (by omega)
    have HO1 : Hid (Open4 w1 b n) := HS0.below hb1
    have HM1 : Hid (MarksAt K w1 b k) := marks_below (marks_set hmk.out (Nat.le_refl _)) HS0.1 hb1
    have hB1 : But b w w1 := (hb.setCell _ _).trans (But.of_below hb1)
    have x0 : w1.cell? ⟨b, k * 4, none⟩ = some (.bool ((K + 4 * (k : Int)) % 3 == 0)) := (hb1.cell (p := ⟨b, k * 4, none⟩) (by exact HS0.1)).trans (World.cell?_setCell_same _ _ _ g0)
    obtain ⟨v1, g1⟩ := HO1.out.2.1 (k * 4 + 1) (by omega)
    have f1 := HO1.out.2.2 (k * 4 + 1)
    have HS1 : Hid (Open4 (w1.setCell ⟨b, k * 4 + 1, none⟩ (.string (ofL (109 :: dec (K + 4 * (k : Int) + 1))))) b n) := HO1.out.set (by omega)
    obtain ⟨v2, g2⟩ := HS1.out.2.1 (k * 4 + 2) (by omega)
    have f2 := HS1.out.2.2 (k * 4 + 2)
    clear hb1 hb hop hmk HS0 g0 f0
    go_wp2_with fail
    refine (c41 _ _ (by omega) (by omega)).mono ?_
    rintro e w2 ⟨rfl, hb2⟩
    have HS2 : Open4 ((w1.setCell ⟨b, k * 4 + 1, none⟩ (.string (ofL (109 :: dec (K + 4 * (k : Int) + 1))))).setCell ⟨b, k * 4 + 2, none⟩ (.int .i64 (K + 4 * (k : Int) + 1 + 1))) b n := HS1.out.set (by omega)
    have HO2 : Hid (Open4 w2 b n) := HS2.below hb2
    have HM2 : Hid (MarksAt K w2 b k) := marks_below (marks_set (marks_set HM1.out (by omega)) (by omega)) HS2.1 hb2
    have hB2 : But b w w2 := ((hB1.setCell _ _).setCell _ _).trans (But.of_below hb2)
    have y0 : w2.cell? ⟨b, k * 4, none⟩ = some (.bool ((K + 4 * (k : Int)) % 3 == 0)) := (hb2.cell (p := ⟨b, k * 4, none⟩) (by exact HS2.1)).trans (by rw [World.cell?_setCell_other _ _ _ _ (adr_ne (by omega)), World.cell?_setCell_other _ _ _ _ (adr_ne (by omega))]; exact x0)
    have y1 : w2.cell? ⟨b, k * 4 + 1, none⟩ = some (.string (ofL (109 :: dec (K + 4 * (k : Int) + 1)))) := (hb2.cell (p := ⟨b, k * 4 + 1, none⟩) (by exact HS2.1)).trans (by rw [World.cell?_setCell_other _ _ _ _ (adr_ne (by omega))]; exact World.cell?_setCell_same _ _ _ g1)
    have y2 : w2.cell? ⟨b, k * 4 + 2, none⟩ = some (.int .i64 (K + 4 * (k : Int) + 1 + 1)) := (hb2.cell (p := ⟨b, k * 4 + 2, none⟩) (by exact HS2.1)).trans (World.cell?_setCell_same _ _ _ g2)
    obtain ⟨v3, g3⟩ := HO2.out.2.1 (k * 4 + 3) (by omega)
    have f3 := HO2.out.2.2 (k * 4 + 3)
    clear hb2 HS2 hB1 HO1 HM1 g1 f1 g2 f2 x0 HS1
    go_wp2
    go_roundw
    case rel =>
     refine ⟨k + 1, by omega, by go_num, by go_num, hB2.setCell _ _, HO2.out.set (by omega), marks_snoc (marks_set HM2.out (by omega)) ?_ ?_ ?_ ?_⟩
     · rw [World.cell?_setCell_other _ _ _ _ (adr_ne (by omega))]; exact y0
     · rw [World.cell?_setCell_other _ _ _ _ (adr_ne (by omega))]; exact y1
     · rw [World.cell?_setCell_other _ _ _ _ (adr_ne (by omega)), y2]; simp [mkL]; omega
     · rw [World.cell?_setCell_same _ _ _ g3]; simp only [mkL]; rw [show K + 4 * (k : Int) + 1 + 1 + 1 = K + 4 * (k : Int) + 3 by omega]
    case measure => simp [intOf]; omega
  · obtain rfl : k = n := by omega
    go_wp2
    go_ret
    exact ⟨rfl, hb, hop.out, hmk.out⟩
end Go.Proofs.YtkhlekmicpmpkaaGreatDoor
