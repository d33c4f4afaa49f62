import Derived.Test.YtboojefodbjbcaaGreatDoorZR23
import Derived.Laws.Rows
import Derived.Laws.IdiomCopy
namespace Go.Proofs.YtboojefodbjbcaaGreatDoor
open Go.RowKit
set_option maxRecDepth 100000
structure But (b : Nat) (w w' : World) : Prop where
 os : w'.os = w.os
 tape : w'.tape = w.tape
 output : w'.output = w.output
 size : w.heap.size ≤ w'.heap.size
 block : ∀ k, k < w.heap.size → k ≠ b → w'.heap[k]? = w.heap[k]?
theorem But.refl (b : Nat) (w : World) : But b w w := ⟨rfl, rfl, rfl, Nat.le_refl _, fun _ _ _ => rfl⟩
theorem But.trans {b : Nat} {u v w : World} (h : But b u v) (k : But b v w) : But b u w :=
 ⟨k.os.trans h.os, k.tape.trans h.tape, k.output.trans h.output, Nat.le_trans h.size k.size, fun i hi hne => (k.block i (Nat.lt_of_lt_of_le hi h.size) hne).trans (h.block i hi hne)⟩
theorem But.of_below {b : Nat} {w w' : World} (h : Below w.heap.size w w') : But b w w' := ⟨h.os, h.tape, h.output, h.size, fun k hk _ => h.block k hk⟩
theorem But.below {b B : Nat} {w w' : World} (h : But b w w') (hB : B ≤ b) (hz : B ≤ w.heap.size) : Below B w w' := ⟨h.os, h.tape, h.output, h.size, fun k hk => h.block k (by omega) (by omega)⟩
theorem But.setCell {b : Nat} {w w' : World} (h : But b w w') (j : Nat) (v : Value) : But b w (w'.setCell ⟨b, j, none⟩ v) := by
 have k := (Below.refl b w').setCell (p := ⟨b, j, none⟩) (Nat.le_refl _) v
 refine ⟨k.os.trans h.os, k.tape.trans h.tape, k.output.trans h.output, Nat.le_trans h.size k.size, fun i hi hne => ?_⟩
 rw [← h.block i hi hne]
 exact Below.heap_setCell _ _ _ _ hne
theorem But.cell {b : Nat} {w w' : World} (h : But b w w') {p : Addr} (hp : p.block < w.heap.size) (hne : p.block ≠ b) : w'.cell? p = w.cell? p := by
 unfold World.cell?
 rw [h.block p.block hp hne]
theorem cat_ofL (a b : List UInt8) : ofL a ++ ofL b = ofL (a ++ b) := by apply ByteArray.ext; simp [ofL]
theorem one_ofL (c : UInt8) : (⟨#[c]⟩ : ByteArray) = ofL [c] := rfl
theorem cons_ofL (x : Int) (l : List UInt8) : strOfNums [x] ++ ofL l = ofL (UInt8.ofNat x.toNat :: l) := by
 apply ByteArray.ext
 simp [ofL, strOfNums]
set_option maxHeartbeats 400000 in
theorem c60 (K : Int) (w : World) (h1 : 1 ≤ K) (h2 : K ≤ 100000000000000) :
 Calls Tryz.prog 60 #[.int .i64 K] w fun e w' => e = .returned (.string (ofL (109 :: dec K))) ∧ Below w.heap.size w w' := by
 have hcv := conv1
 have hcd := convD
 have hz : ∀ y, (strOfNums [y]).size = 1 := fun y => strOfNums_size [y]
 have hdl : (dec K).length ≤ 100000000000001 := by
  have := decF_len (K.toNat + 1) K
  unfold dec; omega
 go_enter Tryz.func60, Tryz.ntmps60
 go_wp2_with fail
 go_loopw [0, 3] (fun k o wr => ∃ (m : Int) (l : List UInt8), 0 ≤ m ∧ m ≤ 100000000000000 ∧ k = .int .i64 m ∧ o = .string (ofL l) ∧ Hid (dec K = if m = 0 then l else dec m ++ l) ∧ Below w.heap.size w wr) (fun k _ _ => (intOf k).toNat)
 case atStart => exact ⟨K, [], by omega, h2, rfl, rfl, by rw [if_neg (by omega)]; simp [Hid], Below.refl _ _⟩
 case round =>
  obtain ⟨m, l, hm0, hm1, rfl, rfl, hl, hb⟩ := hrel
  by_cases hlt : 0 < m
  · have hsz : (ofL l).size ≤ 100000000000001 := by
     have := hl.out
     rw [if_neg (by omega)] at this
     have := congrArg List.length this
     rw [List.length_append] at this
     rw [ofL_size]; omega
    have HN : Hid (dec K = if m / 10 = 0 then UInt8.ofNat (48 + m % 10).toNat :: l else dec (m / 10) ++ (UInt8.ofNat (48 + m % 10).toNat :: l)) := by
     have h := hl.out
     rw [if_neg (by omega)] at h
     by_cases h10 : m < 10
     · rw [dec_lt m h10] at h
       rw [if_pos (by omega), show m % 10 = m by omega]
       exact h
     · rw [dec_ge m (by omega)] at h
       rw [if_neg (by omega)]
       exact h.trans (by simp)
    go_wp2
    go_roundw
    case rel => exact ⟨m / 10, _, by omega, by omega, rfl, by rw [cons_ofL], HN, hb.alloc hb.size _⟩
    case measure => simp [intOf]; omega
  · obtain rfl : m = 0 := by omega
    have HN : Hid (dec K = l) := by have h := hl.out; rwa [if_pos rfl] at h
    have hsz : (ofL l).size ≤ 100000000000001 := by rw [ofL_size, ← HN.out]; exact hdl
    go_wp2
    go_ret
    exact ⟨ret_str (by rw [HN.out]; simp only [one_ofL, cat_ofL]; rfl), hb⟩
def mkL (K : Int) (i : Nat) : L4 := ⟨((K + 4 * (i : Int)) % 3 == 0), ofL (109 :: dec (K + 4 * (i : Int) + 1)), K + 4 * (i : Int) + 2, ofL (109 :: dec (K + 4 * (i : Int) + 3))⟩
def MarksAt (K : Int) (w : World) (b k : Nat) : Prop := ∀ j, j < k → w.cell? ⟨b, j * 4, none⟩ = some (.bool (mkL K j).has) ∧ w.cell? ⟨b, j * 4 + 1, none⟩ = some (.string (mkL K j).nm) ∧ w.cell? ⟨b, j * 4 + 2, none⟩ = some (.int .i64 (mkL K j).cd) ∧ w.cell? ⟨b, j * 4 + 3, none⟩ = some (.string (mkL K j).tx)
def Open4 (w : World) (b n : Nat) : Prop := b < w.heap.size ∧ (∀ j, j < n * 4 → ∃ v, w.cell? ⟨b, j, none⟩ = some v) ∧ ∀ j, w.frozen? ⟨b, j, none⟩ = false
theorem Open4.below {w w' : World} {b n : Nat} (h : Open4 w b n) (hb : Below w.heap.size w w') : Open4 w' b n :=
 ⟨Nat.lt_of_lt_of_le h.1 hb.size, fun j hj => by rw [hb.cell (by exact h.1)]; exact h.2.1 j hj, fun j => by rw [hb.frozen (by exact h.1)]; exact h.2.2 j⟩
theorem Open4.set {w : World} {b n j : Nat} {v : Value} (h : Open4 w b n) (hj : j < n * 4) : Open4 (w.setCell ⟨b, j, none⟩ v) b n := by
 refine ⟨by simpa using h.1, fun i hi => ?_, fun i => by have := h.2.2 i; simpa using this⟩
 by_cases e : i = j
 · subst e
   obtain ⟨x, hx⟩ := h.2.1 i hi
   exact ⟨v, World.cell?_setCell_same _ _ _ hx⟩
 · rw [World.cell?_setCell_other _ _ _ _ (adr_ne (Ne.symm e))]
   exact h.2.1 i hi
theorem marks_below {K : Int} {w w' : World} {b k : Nat} (h : MarksAt K w b k) (hlt : b < w.heap.size) (hb : Below w.heap.size w w') : MarksAt K w' b k := by
 intro j hj
 rw [hb.cell (by exact hlt), hb.cell (by exact hlt), hb.cell (by exact hlt), hb.cell (by exact hlt)]
 exact h j hj
theorem marks_set {K : Int} {w : World} {b k j : Nat} {v : Value} (h : MarksAt K w b k) (hj : k * 4 ≤ j) : MarksAt K (w.setCell ⟨b, j, none⟩ v) b k := by
 intro i hi
 rw [World.cell?_setCell_other _ _ _ _ (adr_ne (by omega)), World.cell?_setCell_other _ _ _ _ (adr_ne (by omega)), World.cell?_setCell_other _ _ _ _ (adr_ne (by omega)), World.cell?_setCell_other _ _ _ _ (adr_ne (by omega))]
 exact h i hi
theorem marks_snoc {K : Int} {w : World} {b k : Nat} (h : MarksAt K w b k) (h0 : w.cell? ⟨b, k * 4, none⟩ = some (.bool (mkL K k).has)) (h1 : w.cell? ⟨b, k * 4 + 1, none⟩ = some (.string (mkL K k).nm)) (h2 : w.cell? ⟨b, k * 4 + 2, none⟩ = some (.int .i64 (mkL K k).cd)) (h3 : w.cell? ⟨b, k * 4 + 3, none⟩ = some (.string (mkL K k).tx)) : MarksAt K w b (k + 1) := by
 intro i hi
 by_cases e : i = k
 · subst e; exact ⟨h0, h1, h2, h3⟩
 · exact h i (by omega)
def Opn (w : World) (b c : Nat) : Prop := b < w.heap.size ∧ (∀ j, j < c → ∃ v, w.cell? ⟨b, j, none⟩ = some v) ∧ ∀ j, w.frozen? ⟨b, j, none⟩ = false
theorem Opn.below {w w' : World} {b c : Nat} (h : Opn w b c) (hb : Below w.heap.size w w') : Opn w' b c :=
 ⟨Nat.lt_of_lt_of_le h.1 hb.size, fun j hj => by rw [hb.cell (by exact h.1)]; exact h.2.1 j hj, fun j => by rw [hb.frozen (by exact h.1)]; exact h.2.2 j⟩
theorem Opn.set {w : World} {b c : Nat} {p : Addr} {v : Value} (h : Opn w b c) : Opn (w.setCell p v) b c := by
 refine ⟨by simpa using h.1, fun i hi => ?_, fun i => by have := h.2.2 i; simpa using this⟩
 obtain ⟨x, hx⟩ := h.2.1 i hi
 by_cases e : p = ⟨b, i, none⟩
 · subst e; exact ⟨v, World.cell?_setCell_same _ _ _ hx⟩
 · exact ⟨x, by rw [World.cell?_setCell_other _ _ _ _ e]; exact hx⟩
set_option maxHeartbeats 2000000 in
theorem c22 (K : Int) (a : Option Addr) (b n cap : Nat) (w : World) (hK1 : 1 ≤ K) (hK2 : K ≤ 50000000000000) (ha : n = 0 ∨ a = some ⟨b, 0, none⟩) (hn : n ≤ 1048576) (ho : Open4 w b n) :
 Calls Tryz.prog 22 #[.slice a n cap, .int .i64 K] w fun e w' => e = .returned (.int .i64 (K + 4 * (n : Int))) ∧ But b w w' ∧ Open4 w' b n ∧ MarksAt K w' b n ∧ ∀ c, Opn w b c → Opn w' b c := by
 have HO : Hid (Open4 w b n) := ho
 clear ho
 go_enter Tryz.func22, Tryz.ntmps22
 go_wp2_with fail
 go_loopw [1, 5] (fun q i wr => ∃ (k : Nat), k ≤ n ∧ i = .int .i64 k ∧ q = .int .i64 (K + 4 * (k : Int)) ∧ But b w wr ∧ Hid (Open4 wr b n) ∧ Hid (MarksAt K wr b k) ∧ Hid (∀ c, Opn w b c → Opn wr b c)) (fun _ i _ => n - (intOf i).toNat)
 case atStart => exact ⟨0, Nat.zero_le _, rfl, by simp, But.refl _ _, HO, fun j h => absurd h (Nat.not_lt_zero _), fun _ h => h⟩
 case round =>
  obtain ⟨k, hk, rfl, rfl, hb, hop, hmk, hkp⟩ := hrel
  by_cases hlt : k < n
  · rcases ha with ha | rfl
    · omega
    obtain ⟨v0, g0⟩ := hop.out.2.1 (k * 4) (by omega)
    have f0 := hop.out.2.2 (k * 4)
    go_wp2_with fail
    refine (c60 _ _ (by omega) (by omega)).mono ?_
    rintro e w1 ⟨rfl, hb1⟩
    have HS0 : Open4 (wr.setCell ⟨b, k * 4, none⟩ (.bool ((K + 4 * (k : Int)) % 3 == 0))) b n := hop.out.set (by omega)
    have HO1 : Hid (Open4 w1 b n) := HS0.below hb1
    have HM1 : Hid (MarksAt K w1 b k) := marks_below (marks_set hmk.out (Nat.le_refl _)) HS0.1 hb1
    have HK1 : Hid (∀ c, Opn w b c → Opn w1 b c) := fun c h => (hkp.out c h).set.below hb1
    have hB1 : But b w w1 := (hb.setCell _ _).trans (But.of_below hb1)
    have x0 : w1.cell? ⟨b, k * 4, none⟩ = some (.bool ((K + 4 * (k : Int)) % 3 == 0)) := (hb1.cell (p := ⟨b, k * 4, none⟩) (by exact HS0.1)).trans (World.cell?_setCell_same _ _ _ g0)
    obtain ⟨v1, g1⟩ := HO1.out.2.1 (k * 4 + 1) (by omega)
    have f1 := HO1.out.2.2 (k * 4 + 1)
    have HS1 : Hid (Open4 (w1.setCell ⟨b, k * 4 + 1, none⟩ (.string (ofL (109 :: dec (K + 4 * (k : Int) + 1))))) b n) := HO1.out.set (by omega)
    obtain ⟨v2, g2⟩ := HS1.out.2.1 (k * 4 + 2) (by omega)
    have f2 := HS1.out.2.2 (k * 4 + 2)
    clear hb1 hb hop hmk HS0 g0 f0
    go_wp2_with fail
    refine (c60 _ _ (by omega) (by omega)).mono ?_
    rintro e w2 ⟨rfl, hb2⟩
    have HS2 : Open4 ((w1.setCell ⟨b, k * 4 + 1, none⟩ (.string (ofL (109 :: dec (K + 4 * (k : Int) + 1))))).setCell ⟨b, k * 4 + 2, none⟩ (.int .i64 (K + 4 * (k : Int) + 1 + 1))) b n := HS1.out.set (by omega)
    have HO2 : Hid (Open4 w2 b n) := HS2.below hb2
    have HM2 : Hid (MarksAt K w2 b k) := marks_below (marks_set (marks_set HM1.out (by omega)) (by omega)) HS2.1 hb2
    have HK2 : Hid (∀ c, Opn w b c → Opn w2 b c) := fun c h => (HK1.out c h).set.set.below hb2
    have hB2 : But b w w2 := ((hB1.setCell _ _).setCell _ _).trans (But.of_below hb2)
    have y0 : w2.cell? ⟨b, k * 4, none⟩ = some (.bool ((K + 4 * (k : Int)) % 3 == 0)) := (hb2.cell (p := ⟨b, k * 4, none⟩) (by exact HS2.1)).trans (by rw [World.cell?_setCell_other _ _ _ _ (adr_ne (by omega)), World.cell?_setCell_other _ _ _ _ (adr_ne (by omega))]; exact x0)
    have y1 : w2.cell? ⟨b, k * 4 + 1, none⟩ = some (.string (ofL (109 :: dec (K + 4 * (k : Int) + 1)))) := (hb2.cell (p := ⟨b, k * 4 + 1, none⟩) (by exact HS2.1)).trans (by rw [World.cell?_setCell_other _ _ _ _ (adr_ne (by omega))]; exact World.cell?_setCell_same _ _ _ g1)
    have y2 : w2.cell? ⟨b, k * 4 + 2, none⟩ = some (.int .i64 (K + 4 * (k : Int) + 1 + 1)) := (hb2.cell (p := ⟨b, k * 4 + 2, none⟩) (by exact HS2.1)).trans (World.cell?_setCell_same _ _ _ g2)
    obtain ⟨v3, g3⟩ := HO2.out.2.1 (k * 4 + 3) (by omega)
    have f3 := HO2.out.2.2 (k * 4 + 3)
    clear hb2 HS2 hB1 HO1 HM1 g1 f1 g2 f2 x0 HS1
    go_wp2
    go_roundw
    case rel =>
     refine ⟨k + 1, by omega, by go_num, by go_num, hB2.setCell _ _, HO2.out.set (by omega), marks_snoc (marks_set HM2.out (by omega)) ?_ ?_ ?_ ?_, fun c h => (HK2.out c h).set⟩
     · rw [World.cell?_setCell_other _ _ _ _ (adr_ne (by omega))]; exact y0
     · rw [World.cell?_setCell_other _ _ _ _ (adr_ne (by omega))]; exact y1
     · rw [World.cell?_setCell_other _ _ _ _ (adr_ne (by omega)), y2]; simp [mkL]; omega
     · rw [World.cell?_setCell_same _ _ _ g3]; simp only [mkL]; rw [show K + 4 * (k : Int) + 1 + 1 + 1 = K + 4 * (k : Int) + 3 by omega]
    case measure => simp [intOf]; omega
  · obtain rfl : k = n := by omega
    go_wp2
    go_ret
    exact ⟨rfl, hb, hop.out, hmk.out, hkp.out⟩
end Go.Proofs.YtboojefodbjbcaaGreatDoor
namespace Go.Proofs.YtboojefodbjbcaaGreatDoor
open Go.RowKit
set_option maxRecDepth 100000
set_option linter.unusedVariables false
theorem c69 (b : Bool) (w : World) : Calls Tryz.prog 69 #[.bool b] w fun e w' => e = .returned (.string (if b then ⟨#[49]⟩ else ⟨#[48]⟩)) ∧ Below w.heap.size w w' := by
 cases b
 · go_enter Tryz.func69, Tryz.ntmps69
   go_wp2
   go_ret
   exact ⟨rfl, Below.refl _ _⟩
 · go_enter Tryz.func69, Tryz.ntmps69
   go_wp2
   go_ret
   exact ⟨rfl, Below.refl _ _⟩
def keyR (m : M3) : ByteArray := m.tl ++ ⟨#[32]⟩ ++ m.ar
theorem c91 (m : M3) (w : World) (hm : m.le 1048600) : Calls Tryz.prog 91 #[.agg #[.string m.nm, .string m.tl, .string m.ar]] w fun e w' => e = .returned (.string (keyR m)) ∧ Below w.heap.size w w' := by
 have h1 := hm.2.1
 have h2 := hm.2.2
 have hB : ∀ o, Below w.heap.size w (w.alloc o) := fun o => (Below.refl _ _).alloc (Nat.le_refl _) _
 go_enter Tryz.func91, Tryz.ntmps91
 go_wp2
 go_ret
 exact ⟨rfl, hB _⟩
def glT (x : L4) : ByteArray := if x.has then (if x.cd = 0 then ⟨#[49]⟩ else ⟨#[48]⟩) else ofL (formR x.cd x.tx.data.toList)
set_option maxHeartbeats 1000000 in
theorem c134 (x : L4) (w : World) (hx : x.tx.size ≤ 1048700) : Calls Tryz.prog 134 #[.agg #[.bool x.has, .string x.nm, .int .i64 x.cd, .string x.tx]] w fun e w' => e = .returned (.string (glT x)) ∧ Below w.heap.size w w' := by
 obtain ⟨h, nm, cd, tx⟩ := x
 simp only at hx ⊢
 have hB : ∀ o, Below w.heap.size w (w.alloc o) := fun o => (Below.refl _ _).alloc (Nat.le_refl _) _
 cases h
 · go_enter Tryz.func134, Tryz.ntmps134
   go_wp2_with fail
   refine (c147 cd tx _ hx).mono ?_
   rintro e w1 ⟨rfl, hb1⟩
   have hB1 := (hB (.cells #[.bool false, .string nm, .int .i64 cd, .string tx] 108)).trans (hb1.mono (by simp))
   clear hb1
   go_wp2
   go_ret
   exact ⟨rfl, hB1⟩
 · by_cases h0 : cd = 0
   · subst h0
     go_enter Tryz.func134, Tryz.ntmps134
     go_wp2
     go_ret
     exact ⟨rfl, hB _⟩
   · have h1 : (cd == 0) = false := by simpa using h0
     have hG : Hid (glT ⟨true, nm, cd, tx⟩ = ⟨#[48]⟩) := by show glT _ = _; unfold glT; simp [h0]
     go_enter Tryz.func134, Tryz.ntmps134
     go_wp2
     go_ret
     exact ⟨by rw [hG.out]; rfl, hB _⟩
end Go.Proofs.YtboojefodbjbcaaGreatDoor
namespace Go.Proofs.YtboojefodbjbcaaGreatDoor
open Go.RowKit
set_option maxRecDepth 100000
def BlkAt (u : World) (B : Nat) (vs : List Value) : Prop := ∀ j v, vs[j]? = some v → u.cell? ⟨B, j, none⟩ = some v
def OpnAt (u : World) (B : Nat) : Prop := ∀ j, u.frozen? ⟨B, j, none⟩ = false
theorem blk_new (w : World) (vs : List Value) (t : TypeId) : BlkAt (w.alloc (.cells vs.toArray t)) w.heap.size vs := fun j v h => by
 simp [go_sem, h]
theorem opn_new (w : World) (a : Array Value) (t : TypeId) : OpnAt (w.alloc (.cells a t)) w.heap.size := fun j => by simp [go_sem]
theorem BlkAt.below {u u' : World} {B N : Nat} {vs : List Value} (h : BlkAt u B vs) (hb : Below N u u') (hN : B < N) : BlkAt u' B vs := fun j v e => (hb.cell (p := ⟨B, j, none⟩) hN).trans (h j v e)
theorem OpnAt.below {u u' : World} {B N : Nat} (h : OpnAt u B) (hb : Below N u u') (hN : B < N) : OpnAt u' B := fun j => (hb.frozen (p := ⟨B, j, none⟩) hN).trans (h j)
theorem BlkAt.set {u : World} {B : Nat} {vs : List Value} (h : BlkAt u B vs) (j : Nat) (v : Value) (hj : j < vs.length) : BlkAt (u.setCell ⟨B, j, none⟩ v) B (vs.set j v) := fun i x e => by
 rcases Nat.decEq i j with hne | rfl
 · rw [World.cell?_setCell_other _ _ _ _ (adr_ne (fun e => hne e.symm))]
   rw [List.getElem?_set_ne (fun h => hne h.symm)] at e
   exact h i x e
 · rw [List.getElem?_set_self hj] at e
   obtain rfl := Option.some.inj e
   exact World.cell?_setCell_same _ _ _ (h i _ (List.getElem?_eq_getElem hj))
theorem OpnAt.set {u : World} {B : Nat} (h : OpnAt u B) (p : Addr) (v : Value) : OpnAt (u.setCell p v) B := fun j => by simpa using h j
def fill (u : World) (B : Nat) : Nat → List Value → World
 | _, [] => u
 | j, v :: vs => fill (u.setCell ⟨B, j, none⟩ v) B (j + 1) vs
theorem BlkAt.fill {B : Nat} (vs : List Value) : ∀ {u : World} (pre old post : List Value) (j : Nat), BlkAt u B (pre ++ old ++ post) → old.length = vs.length → j = pre.length → BlkAt (fill u B j vs) B (pre ++ vs ++ post) := by
 induction vs with
 | nil => intro u pre old post j h hl _; obtain rfl : old = [] := List.length_eq_zero_iff.1 hl; exact h
 | cons v vs ih =>
  intro u pre old post j h hl hj
  match old, hl with
  | o :: old, hl =>
   subst hj
   have h1 := h.set pre.length v (by simp)
   have e : (pre ++ (o :: old) ++ post).set pre.length v = (pre ++ [v]) ++ old ++ post := by simp
   rw [e] at h1
   have := ih (pre ++ [v]) old post (pre.length + 1) h1 (by simpa using hl) (by simp)
   have e2 : pre ++ [v] ++ vs ++ post = pre ++ (v :: vs) ++ post := by simp
   rw [e2] at this
   exact this
theorem OpnAt.fill {B B' : Nat} (vs : List Value) : ∀ {u : World} (j : Nat), OpnAt u B' → OpnAt (Go.Proofs.YtboojefodbjbcaaGreatDoor.fill u B j vs) B' := by
 induction vs with
 | nil => intro u j h; exact h
 | cons v vs ih => intro u j h; exact ih (j + 1) (h.set ⟨B, j, none⟩ v)
theorem below_fill {B N : Nat} {w : World} (hN : N ≤ B) (vs : List Value) : ∀ {u : World} (j : Nat), Below N w u → Below N w (fill u B j vs) := by
 induction vs with
 | nil => intro u j h; exact h
 | cons v vs ih => intro u j h; exact ih (j + 1) (h.setCell (p := ⟨B, j, none⟩) hN v)
theorem size_fill {B : Nat} (vs : List Value) : ∀ {u : World} (j : Nat), (fill u B j vs).heap.size = u.heap.size := by
 induction vs with
 | nil => intro u j; rfl
 | cons v vs ih => intro u j; exact (ih (j + 1)).trans (by simp)
end Go.Proofs.YtboojefodbjbcaaGreatDoor
namespace Go.Proofs.YtboojefodbjbcaaGreatDoor
open Go.RowKit
set_option maxRecDepth 100000
theorem fill_eq (B : Nat) (vs : List Value) : ∀ (u : World) (j : Nat), fill u B j vs = u.setCells B j vs := by
 induction vs with
 | nil => intro u j; rfl
 | cons v vs ih => intro u j; exact ih _ _
theorem adr_add (B o j : Nat) : (⟨B, o, none⟩ : Addr).add j = ⟨B, o + j, none⟩ := by unfold Addr.add; split <;> simp_all
section
variable {P : Program}
theorem run_loadVar_blk (w : World) (B : Nat) (ty : TypeId) (cs : List Value) (d : TypeDesc) (hc : BlkAt w B cs)
 (hu : P.underlying ty = some d) (hd : (match d with | .struct _ | .array _ _ => true | _ => false) = true) (hi : (P.info? ty).map (·.size) = some cs.length) :
 (loadVar ty ⟨B, 0, none⟩).run P w = .ok (.agg cs.toArray) w := by
 have hl : (loadCells ⟨B, 0, none⟩ cs.length).run P w = .ok cs.toArray w :=
  run_loadCells_list (P := P) w ⟨B, 0, none⟩ cs (fun j v hv => by rw [adr_add, Nat.zero_add]; exact hc j v hv)
 cases hq : P.info? ty with
 | none => simp [hq] at hi
 | some i =>
  have hs : i.size = cs.length := by simpa [hq] using hi
  have hagg : (isAgg ty).run P w = .ok true w := by
   unfold isAgg
   rw [Sem.run_bind, run_underlying hu w]
   cases d <;> simp_all
  simp [loadVar, Sem.run_bind, hagg, sizeOf, typeInfo, hq, hs, hl]
theorem run_storeVar_blk (w : World) (B j : Nat) (ty : TypeId) (vs : List Value) (hc : ∀ i, i < vs.length → (w.cell? ⟨B, j + i, none⟩).isSome = true) (hf : OpnAt w B) (h1 : ∀ v ∈ vs, v.oneCell' = true)
 (hi : (P.info? ty).map (·.size) = some vs.length) :
 (storeVar ty ⟨B, j, none⟩ (.agg vs.toArray)).run P w = .ok () (fill w B j vs) := by
 have hs := run_storeCells_cells (P := P) B j vs 0 w (fun i h => by simpa using hc i h) (fun i _ => hf _) h1
 rw [Nat.add_zero, ← fill_eq] at hs
 cases hq : P.info? ty with
 | none => simp [hq] at hi
 | some i =>
  have hz : i.size = vs.length := by simpa [hq] using hi
  simp [storeVar, Value.cells, Sem.run_bind, sizeOf, typeInfo, hq, hz, hs]
theorem results_blk {fn : Func} {p : Tmp} {ty : TypeId} (h : fn.results = #[.cell p ty]) (tmps : Array Value) (w : World) (B : Nat) (cs : List Value) (d : TypeDesc)
 (hp : tmps.getD p undef = .pointer (some ⟨B, 0, none⟩)) (hc : BlkAt w B cs)
 (hu : P.underlying ty = some d) (hd : (match d with | .struct _ | .array _ _ => true | _ => false) = true) (hi : (P.info? ty).map (·.size) = some cs.length) :
 (results fn tmps).run P w = .ok (.agg cs.toArray) w := by
 have hp' : tmps[p]?.getD undef = .pointer (some ⟨B, 0, none⟩) := by simpa using hp
 simp [results, h, hp', asAddr, run_loadVar_blk w B ty cs d hc hu hd hi]
end
end Go.Proofs.YtboojefodbjbcaaGreatDoor
