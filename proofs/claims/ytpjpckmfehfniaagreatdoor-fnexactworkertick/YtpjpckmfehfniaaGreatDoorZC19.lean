import Derived.Test.YtpjpckmfehfniaaGreatDoorZC00
import Derived.WalkKit
import Derived.WalkSpells
import Derived.WalkLawsBesides
import Derived.Laws.BytesArg
import Derived.Deep.RegionWith
import Derived.Deep.QuietTactic
import Derived.BigQuiet
import Derived.Laws.Externs
import Derived.Laws.BitsAllLaws
namespace Go.Proofs.YtpjpckmfehfniaaGreatDoor.M
open Go.RowKit
structure M3 where
 nm : ByteArray
 tl : ByteArray
 ar : ByteArray
def m3z : M3 := ⟨⟨#[]⟩, ⟨#[]⟩, ⟨#[]⟩⟩
def M3.v (x : M3) : Value := .agg #[.string x.nm, .string x.tl, .string x.ar]
def M3.le (x : M3) (B : Nat) : Prop := x.nm.size ≤ B ∧ x.tl.size ≤ B ∧ x.ar.size ≤ B
theorem adr_ne {B i j : Nat} (h : i ≠ j) : (⟨B, i, none⟩ : Addr) ≠ ⟨B, j, none⟩ := by intro e; injection e with _ e; exact h e
theorem set3_other (u : World) (B j m : Nat) (v0 v1 v2 : Value) (h0 : m ≠ j) (h1 : m ≠ j + 1) (h2 : m ≠ j + 2) : (((u.setCell ⟨B, j, none⟩ v0).setCell ⟨B, j + 1, none⟩ v1).setCell ⟨B, j + 2, none⟩ v2).cell? ⟨B, m, none⟩ = u.cell? ⟨B, m, none⟩ := by
 rw [World.cell?_setCell_other _ _ _ _ (adr_ne (Ne.symm h2)), World.cell?_setCell_other _ _ _ _ (adr_ne (Ne.symm h1)), World.cell?_setCell_other _ _ _ _ (adr_ne (Ne.symm h0))]
theorem set3_at (u : World) (B j : Nat) (v0 v1 v2 x0 x1 x2 : Value) (h0 : u.cell? ⟨B, j, none⟩ = some x0) (h1 : u.cell? ⟨B, j + 1, none⟩ = some x1) (h2 : u.cell? ⟨B, j + 2, none⟩ = some x2) :
 (((u.setCell ⟨B, j, none⟩ v0).setCell ⟨B, j + 1, none⟩ v1).setCell ⟨B, j + 2, none⟩ v2).cell? ⟨B, j, none⟩ = some v0 ∧ (((u.setCell ⟨B, j, none⟩ v0).setCell ⟨B, j + 1, none⟩ v1).setCell ⟨B, j + 2, none⟩ v2).cell? ⟨B, j + 1, none⟩ = some v1 ∧ (((u.setCell ⟨B, j, none⟩ v0).setCell ⟨B, j + 1, none⟩ v1).setCell ⟨B, j + 2, none⟩ v2).cell? ⟨B, j + 2, none⟩ = some v2 := by
 have a1 : (u.setCell ⟨B, j, none⟩ v0).cell? ⟨B, j + 1, none⟩ = some x1 := by rw [World.cell?_setCell_other _ _ _ _ (adr_ne (by omega))]; exact h1
 have a2 : ((u.setCell ⟨B, j, none⟩ v0).setCell ⟨B, j + 1, none⟩ v1).cell? ⟨B, j + 2, none⟩ = some x2 := by
  rw [World.cell?_setCell_other _ _ _ _ (adr_ne (by omega)), World.cell?_setCell_other _ _ _ _ (adr_ne (by omega))]; exact h2
 refine ⟨?_, ?_, World.cell?_setCell_same _ _ _ a2⟩
 · rw [World.cell?_setCell_other _ _ _ _ (adr_ne (by omega)), World.cell?_setCell_other _ _ _ _ (adr_ne (by omega))]; exact World.cell?_setCell_same _ _ _ h0
 · rw [World.cell?_setCell_other _ _ _ _ (adr_ne (by omega))]; exact World.cell?_setCell_same _ _ _ a1
set_option maxHeartbeats 400000 in
theorem c97 (x : M3) (w : World) :
 Calls Tryz.prog 97 #[.agg #[.string x.nm, .string x.tl, .string x.ar], .agg #[.string x.nm, .string x.tl, .string x.ar]] w fun e w' => e = .returned (.bool true) ∧ Below w.heap.size w w' := by
 go_enter Tryz.func97, Tryz.ntmps97
 go_wp2
 go_ret
 exact ⟨rfl, ((Below.refl _ _).alloc (Nat.le_refl _) _).alloc (by simp) _⟩
end Go.Proofs.YtpjpckmfehfniaaGreatDoor.M
namespace Go.Proofs.YtpjpckmfehfniaaGreatDoor.M
open Go.RowKit
theorem info5 : (Tryz.prog.info? 5).map (fun i => (i.zero, i.size, i.bytes)) = some (some (.int .u8 0), 1, 1) := by kernel_rfl
theorem blk_lt {w : World} {b : Nat} {o : Obj} (h : w.heap[b]? = some o) : b < w.heap.size := by
 rcases Nat.lt_or_ge b w.heap.size with h' | h'
 · exact h'
 · simp [Array.getElem?_eq_none h'] at h
theorem ownsRow_below {w w' : World} {base : Nat} {e : TypeId} {size : Nat} {v : Value} {n : Nat} {xs : List Value} (h : w.ownsRow base e size v n xs) (hb : Below w.heap.size w w') : w'.ownsRow base e size v n xs := by
 obtain ⟨h1, h2⟩ := h
 refine ⟨h1, ?_⟩
 rcases h2 with h | ⟨g, cap, cur, hv, hg, hh, hr⟩
 · exact .inl h
 · exact .inr ⟨g, cap, cur, hv, hg, by rw [hb.block g (blk_lt hh)]; exact hh, hr⟩
end Go.Proofs.YtpjpckmfehfniaaGreatDoor.M
namespace Go.Proofs.YtpjpckmfehfniaaGreatDoor.M
open Go.RowKit
def plainB (c : UInt8) : Bool := decide (32 ≤ (c.toNat : Int)) && decide ((c.toNat : Int) ≤ 126) && !((c.toNat : Int) == 34) && !((c.toNat : Int) == 92)
theorem ret_bool {a b : Bool} (h : a = b) : Ending.returned (.bool a) = .returned (.bool b) := by rw [h]
theorem ret_str {a b : ByteArray} (h : a = b) : Ending.returned (.string a) = .returned (.string b) := by rw [h]
def hexL : List UInt8 := [48, 49, 50, 51, 52, 53, 54, 55, 56, 57, 97, 98, 99, 100, 101, 102]
def hexA : ByteArray := ⟨#[48, 49, 50, 51, 52, 53, 54, 55, 56, 57, 97, 98, 99, 100, 101, 102]⟩
theorem hex_get (n : Nat) (h : n < hexA.size) : hexA[n] = hexL.getD n 0 := by
 have h' : n < 16 := h
 obtain rfl | rfl | rfl | rfl | rfl | rfl | rfl | rfl | rfl | rfl | rfl | rfl | rfl | rfl | rfl | rfl : n = 0 ∨ n = 1 ∨ n = 2 ∨ n = 3 ∨ n = 4 ∨ n = 5 ∨ n = 6 ∨ n = 7 ∨ n = 8 ∨ n = 9 ∨ n = 10 ∨ n = 11 ∨ n = 12 ∨ n = 13 ∨ n = 14 ∨ n = 15 := by omega
 all_goals rfl
def qb (c : UInt8) : List UInt8 := if plainB c = true then [c] else [92, hexL.getD (c.toNat / 16) 0, hexL.getD (c.toNat % 16) 0]
def quoteL (l : List UInt8) : List UInt8 := 34 :: (l.flatMap qb ++ [34])
theorem qb_len (c : UInt8) : (qb c).length ≤ 3 := by unfold qb; split <;> simp
theorem flat_len (l : List UInt8) : (l.flatMap qb).length ≤ 3 * l.length := by
 induction l with
 | nil => simp
 | cons c l ih => have := qb_len c; simp only [List.flatMap_cons, List.length_append, List.length_cons]; omega
theorem take_snoc (s : ByteArray) (k : Nat) (h : k < s.size) : s.data.toList.take (k + 1) = s.data.toList.take k ++ [s[k]] := by
 rw [List.take_succ_eq_append_getElem (by simpa using h)]; rfl
theorem cells_snoc (l r : List UInt8) : Lib.byteCells (l ++ r) = Lib.byteCells l ++ Lib.byteCells r := by simp [Lib.byteCells]
theorem cells_len (l : List UInt8) : (Lib.byteCells l).length = l.length := by simp [Lib.byteCells]
end Go.Proofs.YtpjpckmfehfniaaGreatDoor.M
/-
 The plain mathematics of names and decimals: no program is named here.
-/
namespace Go.Proofs.YtpjpckmfehfniaaGreatDoor.M
open Go.RowKit
def isDig (c : UInt8) : Bool := decide (48 ≤ (c.toNat : Int) ∧ (c.toNat : Int) ≤ 57)
def isGraph (c : UInt8) : Bool := decide (33 ≤ (c.toNat : Int) ∧ (c.toNat : Int) ≤ 126)
def nameOk (l : List UInt8) : Bool := decide (1 ≤ l.length ∧ l.length ≤ 20) && l.all isGraph
def vstep (n : Int) (c : UInt8) : Int := n * 10 + ((c.toNat : Int) - 48)
def val (l : List UInt8) : Int := l.foldl vstep 0
theorem val_snoc (l : List UInt8) (c : UInt8) : val (l ++ [c]) = val l * 10 + ((c.toNat : Int) - 48) := by simp [val, vstep]
theorem dig_iff (c : UInt8) : isDig c = true ↔ 48 ≤ (c.toNat : Int) ∧ (c.toNat : Int) ≤ 57 := by simp [isDig]
theorem graph_iff (c : UInt8) : isGraph c = true ↔ 33 ≤ (c.toNat : Int) ∧ (c.toNat : Int) ≤ 126 := by simp [isGraph]
theorem snoc_ind {P : List UInt8 → Prop} (h0 : P []) (h1 : ∀ l c, P l → P (l ++ [c])) (l : List UInt8) : P l := by
 have h : ∀ r : List UInt8, P r.reverse := fun r => by
  induction r with
  | nil => exact h0
  | cons c r ih => rw [List.reverse_cons]; exact h1 _ _ ih
 have := h l.reverse
 rwa [List.reverse_reverse] at this
theorem val_nonneg (l : List UInt8) : l.all isDig = true → 0 ≤ val l := by
 refine snoc_ind (P := fun l => l.all isDig = true → 0 ≤ val l) (by simp [val]) (fun l c ih h => ?_) l
 rw [List.all_append] at h
 simp only [List.all_cons, List.all_nil, Bool.and_true, Bool.and_eq_true] at h
 have := ih h.1
 have hc := (dig_iff c).1 h.2
 rw [val_snoc]; omega
theorem val_take_le (l : List UInt8) : l.all isDig = true → ∀ k, val (l.take k) ≤ val l := by
 refine snoc_ind (P := fun l => l.all isDig = true → ∀ k, val (l.take k) ≤ val l) (by simp [val]) (fun l c ih h k => ?_) l
 rw [List.all_append] at h
 simp only [List.all_cons, List.all_nil, Bool.and_true, Bool.and_eq_true] at h
 by_cases hk : k ≤ l.length
 · rw [List.take_append_of_le_length hk, val_snoc]
   have := ih h.1 k
   have h0 := val_nonneg l h.1
   have hc := (dig_iff c).1 h.2
   omega
 · rw [List.take_of_length_le (by simp; omega)]; exact Int.le_refl _
def lean1 (l : List UInt8) : Bool := !l.isEmpty && !(l.headD 0 == 48 && !(l == [48]))
def num40 (l : List UInt8) : Bool := lean1 l && l.all isDig && decide (val l ≤ 40)
def decF : Nat → Int → List UInt8
 | 0, _ => []
 | f + 1, n => if n < 10 then [UInt8.ofNat (48 + n).toNat] else decF f (n / 10) ++ [UInt8.ofNat (48 + n % 10).toNat]
def dec (n : Int) : List UInt8 := decF (n.toNat + 1) n
theorem decF_any (f g : Nat) (n : Int) (h0 : 0 ≤ n) (hf : n.toNat < f) (hg : n.toNat < g) : decF f n = decF g n := by
 induction f generalizing g n with
 | zero => omega
 | succ f ih =>
   cases g with
   | zero => omega
   | succ g =>
     simp only [decF]
     by_cases h : n < 10
     · rw [if_pos h, if_pos h]
     · rw [if_neg h, if_neg h, ih g (n / 10) (by omega) (by omega) (by omega)]
theorem dec_lt (n : Int) (h : n < 10) : dec n = [UInt8.ofNat (48 + n).toNat] := by simp [dec, decF, h]
theorem dec_ge (n : Int) (h : 10 ≤ n) : dec n = dec (n / 10) ++ [UInt8.ofNat (48 + n % 10).toNat] := by
 unfold dec
 rw [decF, if_neg (by omega), decF_any n.toNat ((n / 10).toNat + 1) (n / 10) (by omega) (by omega) (by omega)]
theorem dec_ne (n : Int) : dec n ≠ [] := by
 by_cases h : n < 10
 · rw [dec_lt n h]; simp
 · rw [dec_ge n (by omega)]; simp
theorem ofNat_dig (c : UInt8) (h : isDig c = true) : UInt8.ofNat (48 + ((c.toNat : Int) - 48)).toNat = c := by
 have := (dig_iff c).1 h
 rw [show (48 + ((c.toNat : Int) - 48)).toNat = c.toNat by omega]
 exact UInt8.ofNat_toNat
theorem dec_val (l : List UInt8) : l.all isDig = true → lean1 l = true → dec (val l) = l ∧ (2 ≤ l.length → 10 ≤ val l) ∧ (l.headD 0 ≠ 48 → 1 ≤ val l) := by
 refine snoc_ind (P := fun l => l.all isDig = true → lean1 l = true → dec (val l) = l ∧ (2 ≤ l.length → 10 ≤ val l) ∧ (l.headD 0 ≠ 48 → 1 ≤ val l)) (by simp [lean1]) (fun l c ih h hl => ?_) l
 rw [List.all_append] at h
 simp only [List.all_cons, List.all_nil, Bool.and_true, Bool.and_eq_true] at h
 have hc := (dig_iff c).1 h.2
 have hd := ofNat_dig c h.2
 cases l with
 | nil =>
   have e : val ([] ++ [c]) = (c.toNat : Int) - 48 := by rw [val_snoc]; simp [val]
   rw [e]
   refine ⟨?_, by simp, ?_⟩
   · rw [dec_lt _ (by omega), hd]; rfl
   · intro h1
     simp at h1
     have : c.toNat ≠ 48 := fun e => h1 (by rw [← UInt8.toNat_inj]; exact e)
     omega
 | cons a r =>
   have ha : a ≠ 48 := by
    intro e
    subst e
    simp [lean1] at hl
   have hl' : lean1 (a :: r) = true := by simp [lean1, ha]
   obtain ⟨h1, _, h3⟩ := ih h.1 hl'
   have h4 := h3 (by simpa using ha)
   rw [val_snoc]
   have hdiv : (val (a :: r) * 10 + ((c.toNat : Int) - 48)) / 10 = val (a :: r) := by omega
   have hmod : (val (a :: r) * 10 + ((c.toNat : Int) - 48)) % 10 = (c.toNat : Int) - 48 := by omega
   refine ⟨?_, fun _ => by omega, fun _ => by omega⟩
   rw [dec_ge _ (by omega), hdiv, hmod, h1, hd]
theorem dec_lean (f : Nat) (n : Int) (h0 : 0 ≤ n) (hf : n.toNat < f) : lean1 (dec n) = true ∧ (1 ≤ n → (dec n).headD 0 ≠ 48) := by
 induction f generalizing n with
 | zero => omega
 | succ f ih =>
   by_cases h : n < 10
   · rw [dec_lt n h]
     obtain rfl | rfl | rfl | rfl | rfl | rfl | rfl | rfl | rfl | rfl : n = 0 ∨ n = 1 ∨ n = 2 ∨ n = 3 ∨ n = 4 ∨ n = 5 ∨ n = 6 ∨ n = 7 ∨ n = 8 ∨ n = 9 := by omega
     all_goals decide
   · obtain ⟨h1, h2⟩ := ih (n / 10) (by omega) (by omega)
     have h3 := h2 (by omega)
     rw [dec_ge n (by omega)]
     have hne := dec_ne (n / 10)
     generalize dec (n / 10) = l at *
     cases l with
     | nil => exact absurd rfl hne
     | cons a r =>
       have ha : a ≠ 48 := by simpa using h3
       exact ⟨by simp [lean1, ha], fun _ => by simpa using ha⟩
theorem val_dig_len (l : List UInt8) (h : l.all isDig = true) (hl : lean1 l = true) (h40 : val l ≤ 40) : l.length ≤ 2 := by
 rcases Nat.lt_or_ge 2 l.length with h2 | h2
 · exfalso
   rcases List.eq_nil_or_concat l with e | ⟨r, c, e⟩
   · subst e; simp at h2
   · rw [List.concat_eq_append] at e
     subst e
     rw [List.all_append] at h
     simp only [List.all_cons, List.all_nil, Bool.and_true, Bool.and_eq_true] at h
     have hr : 2 ≤ r.length := by simp at h2; omega
     cases r with
     | nil => simp at hr
     | cons a r =>
       have ha : a ≠ 48 := by
        intro e
        subst e
        simp [lean1] at hl
       have := (dec_val (a :: r) h.1 (by simp [lean1, ha])).2.1 hr
       have hc := (dig_iff c).1 h.2
       rw [val_snoc] at h40
       omega
 · exact h2
end Go.Proofs.YtpjpckmfehfniaaGreatDoor.M
namespace Go.Proofs.YtpjpckmfehfniaaGreatDoor.M
theorem decF_len (f : Nat) (n : Int) : (decF f n).length ≤ f := by
 induction f generalizing n with
 | zero => simp [decF]
 | succ f ih =>
   simp only [decF]
   by_cases h : n < 10
   · rw [if_pos h]; simp
   · rw [if_neg h]; have := ih (n / 10); simp; omega
theorem dec_len (n : Int) (h : 0 ≤ n) (h1 : n ≤ 100000000) : (dec n).length ≤ 100000001 := by
 have := decF_len (n.toNat + 1) n
 unfold dec; omega
end Go.Proofs.YtpjpckmfehfniaaGreatDoor.M
namespace Go.Proofs.YtpjpckmfehfniaaGreatDoor.M
open Go.RowKit
theorem all_take_snoc (p : UInt8 → Bool) (s : ByteArray) (k : Nat) (h : k < s.size) (ha : (s.data.toList.take k).all p = true) (hp : p s[k] = true) : (s.data.toList.take (k + 1)).all p = true := by
 rw [take_snoc s k h, List.all_append, ha]; simpa using hp
theorem all_false_at (p : UInt8 → Bool) (s : ByteArray) (k : Nat) (h : k < s.size) (hp : p s[k] = false) : s.data.toList.all p = false := by
 rw [List.all_eq_false]
 exact ⟨s[k], by simp [ByteArray.getElem_eq_getElem_data], by simp [hp]⟩
theorem all_take_size (p : UInt8 → Bool) (s : ByteArray) (k : Nat) (h : s.size ≤ k) (ha : (s.data.toList.take k).all p = true) : s.data.toList.all p = true := by
 rwa [List.take_of_length_le (by simpa using h)] at ha
def ofL (l : List UInt8) : ByteArray := ⟨l.toArray⟩
theorem ofL_size (l : List UInt8) : (ofL l).size = l.length := by simp [ofL, ByteArray.size]
set_option maxHeartbeats 400000 in
theorem c67 (n l h : Int) (w : World) :
 Calls Tryz.prog 67 #[.int .i64 n, .int .i64 l, .int .i64 h] w fun e w' => e = .returned (.bool (decide (l ≤ n ∧ n ≤ h))) ∧ w' = w := by
 by_cases h1 : l ≤ n <;> by_cases h2 : n ≤ h
 all_goals
  go_enter Tryz.func67, Tryz.ntmps67
  go_wp2
  all_goals go_ret
  all_goals exact ⟨by simp [*], rfl⟩
theorem cat_ofL (a b : List UInt8) : ofL a ++ ofL b = ofL (a ++ b) := by apply ByteArray.ext; simp [ofL]
theorem one_ofL (c : UInt8) : (⟨#[c]⟩ : ByteArray) = ofL [c] := rfl
theorem name_short (s : ByteArray) (h : ¬ (1 ≤ s.size ∧ s.size ≤ 20)) : nameOk s.data.toList = false := by
 unfold nameOk
 have : (decide (1 ≤ s.data.toList.length ∧ s.data.toList.length ≤ 20)) = false := by
  simp only [decide_eq_false_iff_not]; simpa using h
 rw [this]; rfl
theorem name_long (s : ByteArray) (h : 1 ≤ s.size ∧ s.size ≤ 20) : nameOk s.data.toList = s.data.toList.all isGraph := by
 unfold nameOk
 have : (decide (1 ≤ s.data.toList.length ∧ s.data.toList.length ≤ 20)) = true := by
  simp only [decide_eq_true_eq]; simpa using h
 rw [this]; rfl
set_option maxHeartbeats 400000 in
theorem c87 (s : ByteArray) (w : World) (hs : s.size ≤ 1048700) :
 Calls Tryz.prog 87 #[.string s] w fun e w' => e = .returned (.bool (nameOk s.data.toList)) ∧ w' = w := by
 by_cases h : 1 ≤ s.size ∧ s.size ≤ 20
 · have hN : Hid (nameOk s.data.toList = s.data.toList.all isGraph) := name_long s h
   obtain ⟨h1, h2⟩ := h
   go_enter Tryz.func87, Tryz.ntmps87
   go_wp2
   go_loop [14] (fun i => ∃ k : Nat, k ≤ s.size ∧ i = .int .i64 k ∧ Hid ((s.data.toList.take k).all isGraph = true)) (fun i => s.size - (intOf i).toNat)
   case atStart => exact ⟨0, Nat.zero_le _, rfl, rfl⟩
   case round =>
    obtain ⟨k, hk, rfl, ha⟩ := hrel
    by_cases hlt : k < s.size
    · by_cases hg : isGraph s[k] = true
      · have hg' := (graph_iff _).1 hg
        have hn := Hid.out ha
        have ha' : Hid ((s.data.toList.take (k + 1)).all isGraph = true) := all_take_snoc _ s k hlt ha.out hg
        clear hg hn
        go_wp2
        go_round
        case rel => exact ⟨k + 1, by omega, by go_num, ha'⟩
        case measure => simp [intOf]; omega
      · have hf : Hid (s.data.toList.all isGraph = false) := all_false_at _ s k hlt (by simpa using hg)
        have hg' : (s[k].toNat : Int) < 33 ∨ 126 < (s[k].toNat : Int) := by
         rcases Int.lt_or_le (s[k].toNat : Int) 33 with h | h
         · exact .inl h
         · rcases Int.lt_or_le 126 (s[k].toNat : Int) with h' | h'
           · exact .inr h'
           · exact absurd ((graph_iff _).2 ⟨h, h'⟩) hg
        clear hg
        rcases hg' with hg | hg
        all_goals
         go_wp2
         all_goals go_ret
         all_goals exact ⟨ret_bool (by rw [hN.out, hf.out]), rfl⟩
    · go_wp2
      go_ret
      exact ⟨ret_bool (by rw [hN.out, all_take_size _ s k (by omega) ha.out]), rfl⟩
 · have hN : Hid (nameOk s.data.toList = false) := name_short s h
   by_cases h1 : 1 ≤ s.size
   all_goals
    go_enter Tryz.func87, Tryz.ntmps87
    go_wp2
    all_goals go_ret
    all_goals exact ⟨ret_bool (by rw [hN.out]), rfl⟩
set_option maxHeartbeats 400000 in
theorem c73 (s : ByteArray) (w : World) (hs : s.size ≤ 1048700) :
 Calls Tryz.prog 73 #[.string s] w fun e w' => e = .returned (.bool (nameOk s.data.toList)) ∧ w' = w := by
 by_cases h : 1 ≤ s.size ∧ s.size ≤ 20
 · have hN : Hid (nameOk s.data.toList = s.data.toList.all isGraph) := name_long s h
   have hd : decide ((1 : Int) ≤ (s.size : Int) ∧ (s.size : Int) ≤ 20) = true := by simp; omega
   go_enter Tryz.func73, Tryz.ntmps73
   go_wp2_with fail
   refine (c67 _ _ _ _).mono ?_
   rintro e w' ⟨rfl, rfl⟩
   rw [hd]
   go_wp2
   go_loop [3] (fun i => ∃ k : Nat, k ≤ s.size ∧ i = .int .i64 k ∧ Hid ((s.data.toList.take k).all isGraph = true)) (fun i => s.size - (intOf i).toNat)
   case atStart => exact ⟨0, Nat.zero_le _, rfl, rfl⟩
   case round =>
    obtain ⟨k, hk, rfl, ha⟩ := hrel
    by_cases hlt : k < s.size
    · by_cases hg : isGraph s[k] = true
      · have hg' := (graph_iff _).1 hg
        have ha' : Hid ((s.data.toList.take (k + 1)).all isGraph = true) := all_take_snoc _ s k hlt ha.out hg
        clear hg
        go_wp2
        go_round
        case rel => exact ⟨k + 1, by omega, by go_num, ha'⟩
        case measure => simp [intOf]; omega
      · have hf : Hid (s.data.toList.all isGraph = false) := all_false_at _ s k hlt (by simpa using hg)
        have hg' : (s[k].toNat : Int) < 33 ∨ 126 < (s[k].toNat : Int) := by
         rcases Int.lt_or_le (s[k].toNat : Int) 33 with h | h
         · exact .inl h
         · rcases Int.lt_or_le 126 (s[k].toNat : Int) with h' | h'
           · exact .inr h'
           · exact absurd ((graph_iff _).2 ⟨h, h'⟩) hg
        clear hg
        rcases hg' with hg | hg
        all_goals
         go_wp2
         all_goals go_ret
         all_goals exact ⟨ret_bool (by rw [hN.out, hf.out]), rfl⟩
    · go_wp2
      go_ret
      exact ⟨ret_bool (by rw [hN.out, all_take_size _ s k (by omega) ha.out]), rfl⟩
 · have hN : Hid (nameOk s.data.toList = false) := name_short s h
   have hd : decide ((1 : Int) ≤ (s.size : Int) ∧ (s.size : Int) ≤ 20) = false := by simp only [decide_eq_false_iff_not]; omega
   go_enter Tryz.func73, Tryz.ntmps73
   go_wp2_with fail
   refine (c67 _ _ _ _).mono ?_
   rintro e w' ⟨rfl, rfl⟩
   rw [hd]
   go_wp2
   go_ret
   exact ⟨ret_bool (by rw [hN.out]), rfl⟩
end Go.Proofs.YtpjpckmfehfniaaGreatDoor.M
namespace Go.Proofs.YtpjpckmfehfniaaGreatDoor.M
open Go.RowKit
theorem str_isEmpty (s : ByteArray) (h : 1 ≤ s.size) : s.data.toList.isEmpty = false := by
 cases hl : s.data.toList with
 | nil => have : s.data.toList.length = s.size := by simp
          rw [hl] at this; simp at this; omega
 | cons a r => rfl
theorem ret_pair {a b : Int} {x y : Bool} (h : a = b) (h' : x = y) : Ending.returned (.tuple #[.int .i64 a, .bool x]) = .returned (.tuple #[.int .i64 b, .bool y]) := by rw [h, h']
def rn40 (l : List UInt8) : Int := if num40 l = true then val l else 0
theorem lean1_iff (l : List UInt8) : lean1 l = true ↔ l ≠ [] ∧ (l.headD 0 = 48 → l = [48]) := by
 cases l with
 | nil => simp [lean1]
 | cons a r =>
   by_cases h : a = 48
   · simp [lean1, h]
   · simp [lean1, h]
theorem n40_lean {l : List UInt8} (h : lean1 l = false) : num40 l = false := by simp [num40, h]
theorem n40_dig {l : List UInt8} (h : l.all isDig = false) : num40 l = false := by simp only [num40, h, Bool.and_false, Bool.false_and]
theorem n40_big {l : List UInt8} (k : Nat) (h : 40 < val (l.take k)) : num40 l = false := by
 by_cases ha : l.all isDig = true
 · have := val_take_le l ha k
   have hd : decide (val l ≤ 40) = false := by simp only [decide_eq_false_iff_not]; omega
   simp only [num40, hd, Bool.and_false]
 · exact n40_dig (by simpa using ha)
theorem n40_yes {l : List UInt8} (h1 : lean1 l = true) (h2 : l.all isDig = true) (h3 : val l ≤ 40) : num40 l = true := by
 have hd : decide (val l ≤ 40) = true := by simpa using h3
 simp only [num40, h1, h2, hd, Bool.and_self]
theorem rn_no {l : List UInt8} (h : num40 l = false) : rn40 l = 0 := by simp [rn40, h]
theorem rn_yes {l : List UInt8} (h : num40 l = true) : rn40 l = val l := by simp [rn40, h]
theorem head_zero (s : ByteArray) (h : 0 < s.size) : s.data.toList.headD 0 = s[0] := by
 have e : s.data.toList = s[0] :: s.data.toList.tail := by
  have hl : s.data.toList.length = s.size := by simp
  cases hd : s.data.toList with
  | nil => rw [hd] at hl; simp at hl; omega
  | cons a r =>
    simp only [List.tail_cons]
    congr 1
    have : s[0] = s.data.toList[0]'(by simpa using h) := by simp [ByteArray.getElem_eq_getElem_data]
    rw [this]
    simp [hd]
 rw [e]; rfl
theorem byte_sub (c : UInt8) (h : 48 ≤ (c.toNat : Int) ∧ (c.toNat : Int) ≤ 57) : IntKind.u8.wrap ((c.toNat : Int) - 48) = (c.toNat : Int) - 48 := by
 simp [IntKind.wrap, IntKind.signed, IntKind.bits]; omega
set_option maxHeartbeats 400000 in
theorem c123 (s : ByteArray) (w : World) (hs : s.size ≤ 1048700) :
 Calls Tryz.prog 123 #[.string s, .int .i64 40] w fun e w' => e = .returned (.tuple #[.int .i64 (rn40 s.data.toList), .bool (num40 s.data.toList)]) ∧ w' = w := by
 by_cases h0 : s.size = 0
 · have e0 : s.toList = [] := by
    rw [ByteArray.toList_eq]
    exact List.length_eq_zero_iff.1 (by simpa using h0)
   have hN : Hid (num40 s.data.toList = false) := n40_lean (by rw [← ByteArray.toList_eq, e0]; rfl)
   go_enter Tryz.func123, Tryz.ntmps123
   go_wp2
   go_ret2
   exact ⟨ret_pair (rn_no hN.out).symm hN.out.symm, rfl⟩
 · have e0 : s.toList.isEmpty = false := by rw [ByteArray.toList_eq]; exact str_isEmpty s (by omega)
   have e1 : ¬ s.toList = [] := fun h => by rw [h] at e0; cases e0
   have hp : 0 < s.size := by omega
   have hh := head_zero s hp
   by_cases hl : lean1 s.data.toList = true
   · have HL : Hid (lean1 s.data.toList = true) := hl
     have hc : (s[0].toNat = 48 ∧ s.toList = [48]) ∨ ((s[0].toNat : Int) == 48) = false := by
      by_cases h48 : s[0].toNat = 48
      · refine .inl ⟨h48, ?_⟩
        have h1 : s[0] = 48 := UInt8.toNat_inj.1 h48
        rw [ByteArray.toList_eq]
        exact ((lean1_iff _).1 hl).2 (by rw [hh]; exact h1)
      · exact .inr (by simp; omega)
     clear hl hh
     rcases hc with ⟨h48, hz⟩ | h48
     all_goals
      go_enter Tryz.func123, Tryz.ntmps123
      go_wp2
      go_loop [6, 21] (fun n i => ∃ k : Nat, k ≤ s.size ∧ i = .int .i64 k ∧ n = .int .i64 (val (s.data.toList.take k)) ∧ 0 ≤ val (s.data.toList.take k) ∧ val (s.data.toList.take k) ≤ 40 ∧ Hid ((s.data.toList.take k).all isDig = true)) (fun _ i => s.size - (intOf i).toNat)
      case atStart => exact ⟨0, Nat.zero_le _, rfl, rfl, by simp [val], by simp [val], rfl⟩
      case round =>
       obtain ⟨k, hk, rfl, rfl, hv0, hv1, ha⟩ := hrel
       by_cases hlt : k < s.size
       · by_cases hg : isDig s[k] = true
         · have hg' := (dig_iff _).1 hg
           have hw := byte_sub _ hg'
           have ha' : Hid ((s.data.toList.take (k + 1)).all isDig = true) := all_take_snoc _ s k hlt ha.out hg
           have hvs : Hid (val (s.data.toList.take (k + 1)) = val (s.data.toList.take k) * 10 + ((s[k].toNat : Int) - 48)) := by
            rw [take_snoc s k hlt]; exact val_snoc _ _
           clear hg
           by_cases hb : 40 < val (s.data.toList.take k) * 10 + ((s[k].toNat : Int) - 48)
           · have hN : Hid (num40 s.data.toList = false) := n40_big (k + 1) (by rw [hvs.out]; exact hb)
             go_wp2
             go_ret2
             exact ⟨ret_pair (rn_no hN.out).symm hN.out.symm, rfl⟩
           · go_wp2
             go_round
             case rel => exact ⟨k + 1, by omega, by go_num, by rw [hvs.out], by rw [hvs.out]; omega, by rw [hvs.out]; omega, ha'⟩
             case measure => simp [intOf]; omega
         · have hN : Hid (num40 s.data.toList = false) := n40_dig (all_false_at _ s k hlt (by simpa using hg))
           have hg' : (s[k].toNat : Int) < 48 ∨ 57 < (s[k].toNat : Int) := by
            rcases Int.lt_or_le (s[k].toNat : Int) 48 with h | h
            · exact .inl h
            · rcases Int.lt_or_le 57 (s[k].toNat : Int) with h' | h'
              · exact .inr h'
              · exact absurd ((dig_iff _).2 ⟨h, h'⟩) hg
           clear hg
           rcases hg' with hg | hg
           all_goals
            go_wp2
            all_goals go_ret2
            all_goals exact ⟨ret_pair (rn_no hN.out).symm hN.out.symm, rfl⟩
       · have hall := all_take_size _ s k (by omega) ha.out
         have hE : s.data.toList.take k = s.data.toList := List.take_of_length_le (by simp; omega)
         have hN : Hid (num40 s.data.toList = true) := n40_yes HL.out hall (by rw [← hE]; exact hv1)
         have HE : Hid (s.data.toList.take k = s.data.toList) := hE
         clear hall hE
         go_wp2
         go_ret2
         exact ⟨ret_pair (by rw [rn_yes hN.out, HE.out]) hN.out.symm, rfl⟩
   · have hN : Hid (num40 s.data.toList = false) := n40_lean (by simpa using hl)
     have h48 : s[0].toNat = 48 ∧ ¬ s.toList = [48] := by
      rw [ByteArray.toList_eq] at e1 ⊢
      rw [lean1_iff, hh] at hl
      by_cases h1 : s[0] = 48
      · refine ⟨by rw [h1]; rfl, fun hz => hl ⟨e1, fun _ => hz⟩⟩
      · exact absurd ⟨e1, fun h => absurd h h1⟩ hl
     obtain ⟨h48, hz⟩ := h48
     have hz' : (!s.toList == [48]) = true := by simpa using hz
     clear hh hl
     go_enter Tryz.func123, Tryz.ntmps123
     go_wp2
     go_ret2
     exact ⟨ret_pair (rn_no hN.out).symm hN.out.symm, rfl⟩
end Go.Proofs.YtpjpckmfehfniaaGreatDoor.M
