import Derived.Test.YtboojefodbjbcaaGreatDoorGV4
import Derived.Lib.Bytealg
import Derived.Deep.RegionHeld3
import Derived.Test.YtboojefodbjbcaaGreatDoorProg
import Derived.WalkKit
import Derived.WalkSpells
import Derived.WalkLawsBesides
import Derived.Laws.BytesArg
import Derived.Deep.RegionWith
import Derived.Deep.QuietTactic
import Derived.BigQuiet
namespace Go.Proofs.YtboojefodbjbcaaGreatDoor.G.T
open Go.RowKit
theorem files_setCell {w : World} {g : Nat} {is : List F2} {q : Addr} {v : Value} (h : FilesAt w (some ⟨g, 0, none⟩) is) (hq : q.block ≠ g) : FilesAt (w.setCell q v) (some ⟨g, 0, none⟩) is := by
 rcases h with h | ⟨b, off, h1, h2, h3⟩
 · exact .inl h
 · have hg : b = g := by injection h1 with h1; injection h1 with h1 _; exact h1.symm
   have hne : ∀ j, q ≠ ⟨b, j, none⟩ := fun j e => hq (by rw [e]; exact hg)
   refine .inr ⟨b, off, h1, by simpa using h2, fun i hi => ?_⟩
   rw [World.cell?_setCell_other _ _ _ _ (hne _), World.cell?_setCell_other _ _ _ _ (hne _)]
   exact h3 i hi
set_option maxHeartbeats 400000 in
theorem c17 (a a' : Option Addr) (cap cap' : Nat) (is : List F2) (w : World) (hl : is.length ≤ 1048576) (hat : FilesAt w a is) (hat' : FilesAt w a' is) :
 Calls Tryz.prog 17 #[.agg #[.slice a is.length cap], .agg #[.slice a' is.length cap']] w fun e w' => e = .returned (.bool true) ∧ Below w.heap.size w w' := by
 have HA : Hid (FilesAt w a is) := hat
 have HA' : Hid (FilesAt w a' is) := hat'
 clear hat hat'
 have hB0 : Below w.heap.size w ((w.alloc (.cells #[.slice a is.length cap] 49)).alloc (.cells #[.slice a' is.length cap'] 49)) := ((Below.refl _ _).alloc (Nat.le_refl _) _).alloc (by simp) _
 go_enter Tryz.func17, Tryz.ntmps17
 go_wp2_with fail
 refine (c55 a a' cap cap' is _ hl (files_below HA.out hB0) (files_below HA'.out hB0)).mono ?_
 rintro e w1 ⟨rfl, hb1⟩
 go_wp2
 go_ret
 exact ⟨rfl, hB0.trans (hb1.mono hB0.size)⟩
end Go.Proofs.YtboojefodbjbcaaGreatDoor.G.T
namespace Go.Proofs.YtboojefodbjbcaaGreatDoor.G.T
open Go.RowKit
structure But (b : Nat) (w w' : World) : Prop where
 os : w'.os = w.os
 tape : w'.tape = w.tape
 output : w'.output = w.output
 size : w.heap.size ≤ w'.heap.size
 block : ∀ k, k < w.heap.size → k ≠ b → w'.heap[k]? = w.heap[k]?
def Open2 (w : World) (b n : Nat) : Prop := b < w.heap.size ∧ (∀ j, j < n * 2 → ∃ v, w.cell? ⟨b, j, none⟩ = some v) ∧ ∀ j, w.frozen? ⟨b, j, none⟩ = false
end Go.Proofs.YtboojefodbjbcaaGreatDoor.G.T
namespace Go.Proofs.YtboojefodbjbcaaGreatDoor.G.T
open Go.RowKit
theorem cmp_neg : ∀ (a b : List UInt8), Lib.compareBytes a b < 0 ↔ Op.bytesLess a b = true
 | [], [] => by simp [Lib.compareBytes, Op.bytesLess]
 | [], _ :: _ => by simp [Lib.compareBytes, Op.bytesLess]
 | _ :: _, [] => by simp [Lib.compareBytes, Op.bytesLess]
 | x :: a, y :: b => by
  have ih := cmp_neg a b
  simp only [Lib.compareBytes, Op.bytesLess]
  by_cases h1 : x < y
  · simp [h1]
  · by_cases h2 : y < x
    · have h3 : ¬ x = y := fun e => by subst e; exact UInt8.lt_irrefl x h2
      simp [h1, h2, h3]
    · have h3 : x = y := UInt8.le_antisymm (UInt8.not_lt.1 h2) (UInt8.not_lt.1 h1)
      subst h3
      simp [h1, ih]
theorem cmp_zero : ∀ (a b : List UInt8), Lib.compareBytes a b = 0 ↔ a = b
 | [], [] => by simp [Lib.compareBytes]
 | [], _ :: _ => by simp [Lib.compareBytes]
 | _ :: _, [] => by simp [Lib.compareBytes]
 | x :: a, y :: b => by
  have ih := cmp_zero a b
  simp only [Lib.compareBytes]
  by_cases h1 : x < y
  · have h3 : ¬ x = y := fun e => by subst e; exact UInt8.lt_irrefl x h1
    simp [h1, h3]
  · by_cases h2 : y < x
    · have h3 : ¬ x = y := fun e => by subst e; exact UInt8.lt_irrefl x h2
      simp [h1, h2, h3]
    · have h3 : x = y := UInt8.le_antisymm (UInt8.not_lt.1 h2) (UInt8.not_lt.1 h1)
      subst h3
      simp [h1, ih]
def lt (a b : ByteArray) : Bool := Op.bytesLess a.toList b.toList
def cmpB (a b : ByteArray) : Int := Lib.compareBytes a.data.toList b.data.toList
theorem cmpB_neg (a b : ByteArray) : cmpB a b < 0 ↔ lt a b = true := by
 unfold cmpB lt
 rw [cmp_neg, ByteArray.toList_eq, ByteArray.toList_eq]
theorem cmpB_zero (a b : ByteArray) : cmpB a b = 0 ↔ a = b := by
 unfold cmpB
 rw [cmp_zero]
 exact ⟨fun h => ByteArray.ext (Array.toList_inj.1 h), fun h => by rw [h]⟩
set_option maxHeartbeats 400000 in
theorem c118 (a b : ByteArray) (w : World) :
 Calls Tryz.prog 118 #[.string a, .string b] w fun e w' => e = .returned (.int .i64 (cmpB a b)) ∧ w' = w := by
 have hrun : ∀ u : World, (callFunc 135 #[.string a, .string b]).run Tryz.prog u = .ok (.value (.int .i64 (cmpB a b))) u := fun u => by
  rw [run_callFunc_extern Tryz.func135 (by kernel_rfl) (by kernel_rfl) (by kernel_rfl) (e := Extern.BytealgCompare.compare) (by kernel_rfl), Lib.run_compareString]
  rfl
 go_enter Tryz.func118, Tryz.ntmps118
 go_wp2
 go_ret
 exact ⟨rfl, rfl⟩
set_option maxHeartbeats 400000 in
theorem c96 (a b : ByteArray) (w : World) :
 Calls Tryz.prog 96 #[.string a, .string b] w fun e w' => e = .returned (.int .i64 (cmpB a b)) ∧ w' = w := by
 go_enter Tryz.func96, Tryz.ntmps96
 go_wp2_with fail
 refine (c118 a b _).mono ?_
 rintro e w1 ⟨rfl, hw⟩
 obtain rfl := hw.symm
 go_wp2
 go_ret
 exact ⟨rfl, rfl⟩
set_option maxHeartbeats 400000 in
theorem c127 (x : F2) (b : ByteArray) (w : World) :
 Calls Tryz.prog 127 #[.agg #[.string x.nm, .string x.tx], .string b] w fun e w' => e = .returned (.int .i64 (cmpB x.nm b)) ∧ Below w.heap.size w w' := by
 go_enter Tryz.func127, Tryz.ntmps127
 go_wp2_with fail
 refine (c96 x.nm b _).mono ?_
 rintro e w1 ⟨rfl, hw⟩
 obtain rfl := hw.symm
 go_wp2
 go_ret
 exact ⟨rfl, (Below.refl _ _).alloc (Nat.le_refl _) _⟩
theorem less_trans : ∀ (a b c : List UInt8), Op.bytesLess a b = true → Op.bytesLess b c = true → Op.bytesLess a c = true
 | _, [], _, h, _ => by simp [Op.bytesLess] at h
 | _, _ :: _, [], _, h => by simp [Op.bytesLess] at h
 | [], _ :: _, _ :: _, _, _ => by simp [Op.bytesLess]
 | x :: a, y :: b, z :: c, h, k => by
  have ih := less_trans a b c
  simp only [Op.bytesLess, Bool.or_eq_true, Bool.and_eq_true, decide_eq_true_eq, beq_iff_eq] at h k ⊢
  rcases h with h | ⟨rfl, h⟩
  · rcases k with k | ⟨rfl, k⟩
    · exact .inl (UInt8.lt_trans h k)
    · exact .inl h
  · rcases k with k | ⟨rfl, k⟩
    · exact .inl k
    · exact .inr ⟨rfl, ih h k⟩
theorem less_irrefl : ∀ (a : List UInt8), Op.bytesLess a a = false
 | [] => by simp [Op.bytesLess]
 | x :: a => by simp [Op.bytesLess, less_irrefl a]
theorem lt_trans' {a b c : ByteArray} (h : lt a b = true) (k : lt b c = true) : lt a c = true := less_trans _ _ _ h k
theorem lt_irrefl' (a : ByteArray) : lt a a = false := less_irrefl _
structure Place (fs : List F2) (t : ByteArray) (p : Nat) (f : Bool) : Prop where
 le : p ≤ fs.length
 less : ∀ j, j < p → lt (fs.getD j f2z).nm t = true
 more : ∀ j, p ≤ j → j < fs.length → lt (fs.getD j f2z).nm t = false
 here : f = true ↔ p < fs.length ∧ (fs.getD p f2z).nm = t
def Asc (fs : List F2) : Prop := ∀ i j, i < j → j < fs.length → lt (fs.getD i f2z).nm (fs.getD j f2z).nm = true
def Half (fs : List F2) (t : ByteArray) (i j : Nat) : Prop := (∀ q, q < i → lt (fs.getD q f2z).nm t = true) ∧ ∀ q, j ≤ q → q < fs.length → lt (fs.getD q f2z).nm t = false
theorem half_up {fs : List F2} {t : ByteArray} {i j h : Nat} (hm : Asc fs) (hh : Half fs t i j) (hl : h < fs.length) (hx : lt (fs.getD h f2z).nm t = true) : Half fs t (h + 1) j := by
 refine ⟨fun q hq => ?_, hh.2⟩
 rcases Nat.lt_or_ge q h with h1 | h1
 · exact lt_trans' (hm q h h1 hl) hx
 · obtain rfl : q = h := by omega
   exact hx
theorem half_down {fs : List F2} {t : ByteArray} {i j h : Nat} (hm : Asc fs) (hh : Half fs t i j) (hx : lt (fs.getD h f2z).nm t = false) : Half fs t i h := by
 refine ⟨hh.1, fun q hq hl => ?_⟩
 rcases Nat.lt_or_ge h q with h1 | h1
 · cases hc : lt (fs.getD q f2z).nm t
   · rfl
   · rw [lt_trans' (hm h q h1 hl) hc] at hx; cases hx
 · obtain rfl : q = h := by omega
   exact hx
set_option maxHeartbeats 1000000 in
theorem c126 (a : Option Addr) (cap : Nat) (fs : List F2) (t : ByteArray) (w : World) (hl : fs.length ≤ 40) (hat : FilesAt w a fs) (hm : Asc fs) :
 Calls Tryz.prog 126 #[.slice a fs.length cap, .string t, .func (.func 127) #[] #[]] w fun e w' => (∃ p f, e = .returned (.tuple #[.int .i64 (p : Nat), .bool f]) ∧ Place fs t p f) ∧ Below w.heap.size w w' := by
 obtain ⟨b, off, hc⟩ := files_some hat
 have HC : Hid (fs = [] ∨ (a = some ⟨b, off, none⟩ ∧ b < w.heap.size ∧ ∀ i, i < fs.length → w.cell? ⟨b, off + i * 2, none⟩ = some (.string (fs.getD i f2z).nm) ∧ w.cell? ⟨b, off + i * 2 + 1, none⟩ = some (.string (fs.getD i f2z).tx))) := hc
 have HM : Hid (Asc fs) := hm
 clear hc hat hm
 go_enter Tryz.func126, Tryz.ntmps126
 go_wp2_with fail
 go_loopw [9, 10] (fun vi vj wr => ∃ i j : Nat, i ≤ j ∧ j ≤ fs.length ∧ vi = .int .i64 i ∧ vj = .int .i64 j ∧ Below w.heap.size w wr ∧ Hid (Half fs t i j)) (fun vi vj _ => (intOf vj).toNat - (intOf vi).toNat)
 case atStart => exact ⟨0, fs.length, Nat.zero_le _, Nat.le_refl _, rfl, rfl, Below.refl _ _, ⟨fun q h => absurd h (Nat.not_lt_zero _), fun q h k => by omega⟩⟩
 case round =>
  obtain ⟨i, j, hij, hj, rfl, rfl, hb, hh⟩ := hrel
  by_cases hlt : i < j
  · rcases HC.out with hss | ⟨ha, hbw, hcell⟩
    · rw [hss] at hj; simp at hj; omega
    subst ha
    have hhl : (i + j) / 2 < fs.length := by omega
    have g0 := (hb.cell (p := ⟨b, off + (i + j) / 2 * 2, none⟩) hbw).trans (hcell _ hhl).1
    have g1 := (hb.cell (p := ⟨b, off + (i + j) / 2 * 2 + 1, none⟩) hbw).trans (hcell _ hhl).2
    have HU : Hid (lt (fs.getD ((i + j) / 2) f2z).nm t = true → Half fs t ((i + j) / 2 + 1) j) := fun hx => half_up HM.out hh.out hhl hx
    have HD : Hid (lt (fs.getD ((i + j) / 2) f2z).nm t = false → Half fs t i ((i + j) / 2)) := fun hx => half_down HM.out hh.out hx
    generalize fs.getD ((i + j) / 2) f2z = x at *
    clear hcell
    go_wp2_with fail
    refine (c127 x t wr).mono ?_
    rintro e w1 ⟨rfl, hb1⟩
    have hB1 : Below w.heap.size w w1 := hb.trans (hb1.mono hb.size)
    cases hx : lt x.nm t
    · have hc : ¬ cmpB x.nm t < 0 := fun h => by rw [(cmpB_neg _ _).1 h] at hx; cases hx
      have hc1 : decide (cmpB x.nm t < 0) = false := decide_eq_false hc
      have hn : Hid (Half fs t i ((i + j) / 2)) := HD.out hx
      clear hx hb1 HU HD
      go_wp2
      go_roundw
      case rel => exact ⟨i, (i + j) / 2, by omega, by omega, rfl, by go_num, hB1, hn⟩
      case measure => simp [intOf]; omega
    · have hc : cmpB x.nm t < 0 := (cmpB_neg _ _).2 hx
      have hn : Hid (Half fs t ((i + j) / 2 + 1) j) := HU.out hx
      clear hx hb1 HU HD
      go_wp2
      go_roundw
      case rel => exact ⟨(i + j) / 2 + 1, j, by omega, by omega, by go_num, rfl, hB1, hn⟩
      case measure => simp [intOf]; omega
  · obtain rfl : i = j := by omega
    by_cases hin : i < fs.length
    · rcases HC.out with hss | ⟨ha, hbw, hcell⟩
      · rw [hss] at hin; exact absurd hin (Nat.not_lt_zero _)
      subst ha
      have g0 := (hb.cell (p := ⟨b, off + i * 2, none⟩) hbw).trans (hcell i hin).1
      have g1 := (hb.cell (p := ⟨b, off + i * 2 + 1, none⟩) hbw).trans (hcell i hin).2
      have HP : Hid (∀ f : Bool, (f = true ↔ (fs.getD i f2z).nm = t) → Place fs t i f) := fun f hf => ⟨by omega, hh.out.1, hh.out.2, hf.trans ⟨fun h => ⟨hin, h⟩, fun h => h.2⟩⟩
      generalize fs.getD i f2z = x at *
      clear hcell
      go_wp2_with fail
      refine (c127 x t wr).mono ?_
      rintro e w1 ⟨rfl, hb1⟩
      have hB1 : Below w.heap.size w w1 := hb.trans (hb1.mono hb.size)
      go_wp2
      all_goals go_ret2
      all_goals exact ⟨⟨i, _, rfl, HP.out _ (by rw [← cmpB_zero]; simp)⟩, hB1⟩
    · have HP : Hid (Place fs t i false) := ⟨by omega, hh.out.1, hh.out.2, by simp; omega⟩
      have hd : decide ((i : Int) < (fs.length : Int)) = false := decide_eq_false (by omega)
      go_wp2
      all_goals go_ret2
      all_goals exact ⟨⟨i, false, rfl, HP.out⟩, hb⟩
set_option maxHeartbeats 400000 in
theorem c113 (a : Option Addr) (cap : Nat) (fs : List F2) (t : ByteArray) (w : World) (hl : fs.length ≤ 40) (hat : FilesAt w a fs) (hm : Asc fs) :
 Calls Tryz.prog 113 #[.agg #[.slice a fs.length cap], .string t] w fun e w' => (∃ p f, e = .returned (.tuple #[.int .i64 (p : Nat), .bool f]) ∧ Place fs t p f) ∧ Below w.heap.size w w' := by
 have HA : Hid (FilesAt w a fs) := hat
 have HM : Hid (Asc fs) := hm
 have hB0 : Below w.heap.size w (w.alloc (.cells #[.slice a fs.length cap] 49)) := (Below.refl _ _).alloc (Nat.le_refl _) _
 clear hat hm
 go_enter Tryz.func113, Tryz.ntmps113
 go_wp2_with fail
 refine (c126 a cap fs t _ hl (files_below HA.out hB0) HM.out).mono ?_
 rintro e w1 ⟨⟨p, f, rfl, hp⟩, hb1⟩
 have HP : Hid (Place fs t p f) := hp
 clear hp
 go_wp2
 go_ret2
 exact ⟨⟨p, f, rfl, HP.out⟩, hB0.trans (hb1.mono hB0.size)⟩
theorem asc_of {fs : List F2} (h : treeOk fs) : Asc fs := by
 have step : ∀ j, j + 1 < fs.length → lt (fs.getD j f2z).nm (fs.getD (j + 1) f2z).nm = true := fun j hj => by
  have := h.2 (j + 1) hj
  unfold stepOk at this
  simp only [Bool.and_eq_true, Bool.or_eq_true, decide_eq_true_eq] at this
  rcases this.2 with h | h
  · omega
  · exact h
 intro i j hij
 induction j with
 | zero => omega
 | succ j ih =>
  intro hj
  rcases Nat.lt_or_ge i j with h1 | h1
  · exact lt_trans' (ih h1 (by omega)) (step j hj)
  · obtain rfl : i = j := by omega
    exact step i hj
end Go.Proofs.YtboojefodbjbcaaGreatDoor.G.T
namespace Go.Proofs.YtboojefodbjbcaaGreatDoor.G
open Go.RowKit
structure M3 where
 nm : ByteArray
 tl : ByteArray
 ar : ByteArray
def m3z : M3 := ⟨⟨#[]⟩, ⟨#[]⟩, ⟨#[]⟩⟩
def M3.v (x : M3) : Value := .agg #[.string x.nm, .string x.tl, .string x.ar]
def M3.le (x : M3) (B : Nat) : Prop := x.nm.size ≤ B ∧ x.tl.size ≤ B ∧ x.ar.size ≤ B
def MksAt (w : World) (a : Option Addr) (is : List M3) : Prop :=
 is = [] ∨ ∃ b off, a = some ⟨b, off, none⟩ ∧ b < w.heap.size ∧ ∀ i, i < is.length → w.cell? ⟨b, off + i * 3, none⟩ = some (.string (is.getD i m3z).nm) ∧ w.cell? ⟨b, off + i * 3 + 1, none⟩ = some (.string (is.getD i m3z).tl) ∧ w.cell? ⟨b, off + i * 3 + 2, none⟩ = some (.string (is.getD i m3z).ar)
theorem mks_some {w : World} {a : Option Addr} {is : List M3} (h : MksAt w a is) : ∃ b off, (is = [] ∨ (a = some ⟨b, off, none⟩ ∧ b < w.heap.size ∧ ∀ i, i < is.length → w.cell? ⟨b, off + i * 3, none⟩ = some (.string (is.getD i m3z).nm) ∧ w.cell? ⟨b, off + i * 3 + 1, none⟩ = some (.string (is.getD i m3z).tl) ∧ w.cell? ⟨b, off + i * 3 + 2, none⟩ = some (.string (is.getD i m3z).ar))) := by
 rcases h with h | ⟨b, off, h⟩
 · exact ⟨0, 0, .inl h⟩
 · exact ⟨b, off, .inr h⟩
theorem mks_below {w w' : World} {a : Option Addr} {is : List M3} (h : MksAt w a is) (hb : Below w.heap.size w w') : MksAt w' a is := by
 rcases h with h | ⟨b, off, h1, h2, h3⟩
 · exact .inl h
 · exact .inr ⟨b, off, h1, Nat.lt_of_lt_of_le h2 hb.size, fun i hi => by rw [hb.cell (by exact h2), hb.cell (by exact h2), hb.cell (by exact h2)]; exact h3 i hi⟩
theorem getD_smallM {is : List M3} {B : Nat} (h : ∀ i, i < is.length → (is.getD i m3z).le B) (i : Nat) : (is.getD i m3z).le B := by
 rcases Nat.lt_or_ge i is.length with h' | h'
 · exact h i h'
 · have e : is.getD i m3z = m3z := by simp [List.getD, List.getElem?_eq_none h']
   rw [e]; exact ⟨Nat.zero_le _, Nat.zero_le _, Nat.zero_le _⟩
theorem adr_ne {B i j : Nat} (h : i ≠ j) : (⟨B, i, none⟩ : Addr) ≠ ⟨B, j, none⟩ := by intro e; injection e with _ e; exact h e
theorem set3_other (u : World) (B j m : Nat) (v0 v1 v2 : Value) (h0 : m ≠ j) (h1 : m ≠ j + 1) (h2 : m ≠ j + 2) : (((u.setCell ⟨B, j, none⟩ v0).setCell ⟨B, j + 1, none⟩ v1).setCell ⟨B, j + 2, none⟩ v2).cell? ⟨B, m, none⟩ = u.cell? ⟨B, m, none⟩ := by
 rw [World.cell?_setCell_other _ _ _ _ (adr_ne (Ne.symm h2)), World.cell?_setCell_other _ _ _ _ (adr_ne (Ne.symm h1)), World.cell?_setCell_other _ _ _ _ (adr_ne (Ne.symm h0))]
theorem set3_at (u : World) (B j : Nat) (v0 v1 v2 x0 x1 x2 : Value) (h0 : u.cell? ⟨B, j, none⟩ = some x0) (h1 : u.cell? ⟨B, j + 1, none⟩ = some x1) (h2 : u.cell? ⟨B, j + 2, none⟩ = some x2) :
 (((u.setCell ⟨B, j, none⟩ v0).setCell ⟨B, j + 1, none⟩ v1).setCell ⟨B, j + 2, none⟩ v2).cell? ⟨B, j, none⟩ = some v0 ∧ (((u.setCell ⟨B, j, none⟩ v0).setCell ⟨B, j + 1, none⟩ v1).setCell ⟨B, j + 2, none⟩ v2).cell? ⟨B, j + 1, none⟩ = some v1 ∧ (((u.setCell ⟨B, j, none⟩ v0).setCell ⟨B, j + 1, none⟩ v1).setCell ⟨B, j + 2, none⟩ v2).cell? ⟨B, j + 2, none⟩ = some v2 := by
 have a1 : (u.setCell ⟨B, j, none⟩ v0).cell? ⟨B, j + 1, none⟩ = some x1 := by rw [World.cell?_setCell_other _ _ _ _ (adr_ne (by omega))]; exact h1
 have a2 : ((u.setCell ⟨B, j, none⟩ v0).setCell ⟨B, j + 1, none⟩ v1).cell? ⟨B, j + 2, none⟩ = some x2 := by
  rw [World.cell?_setCell_other _ _ _ _ (adr_ne (by omega)), World.cell?_setCell_other _ _ _ _ (adr_ne (by omega))]; exact h2
 refine ⟨?_, ?_, World.cell?_setCell_same _ _ _ a2⟩
 · rw [World.cell?_setCell_other _ _ _ _ (adr_ne (by omega)), World.cell?_setCell_other _ _ _ _ (adr_ne (by omega))]; exact World.cell?_setCell_same _ _ _ h0
 · rw [World.cell?_setCell_other _ _ _ _ (adr_ne (by omega))]; exact World.cell?_setCell_same _ _ _ a1
theorem info51 : (Tryz.prog.info? 51).map (fun i => (i.zero, i.size, i.bytes)) = some (some (.agg #[.string ⟨#[]⟩, .string ⟨#[]⟩, .string ⟨#[]⟩]), 3, 48) := by kernel_rfl
set_option maxHeartbeats 400000 in
theorem c100 (x : M3) (w : World) :
 Calls Tryz.prog 100 #[.agg #[.string x.nm, .string x.tl, .string x.ar], .agg #[.string x.nm, .string x.tl, .string x.ar]] w fun e w' => e = .returned (.bool true) ∧ Below w.heap.size w w' := by
 go_enter Tryz.func100, Tryz.ntmps100
 go_wp2
 go_ret
 exact ⟨rfl, ((Below.refl _ _).alloc (Nat.le_refl _) _).alloc (by simp) _⟩
end Go.Proofs.YtboojefodbjbcaaGreatDoor.G
namespace Go.Proofs.YtboojefodbjbcaaGreatDoor.G
open Go.RowKit
open T (lt cmpB cmpB_neg cmpB_zero lt_trans' lt_irrefl' c96)
set_option maxHeartbeats 400000 in
theorem c95 (x : M3) (b : ByteArray) (w : World) :
 Calls Tryz.prog 95 #[.agg #[.string x.nm, .string x.tl, .string x.ar], .string b] w fun e w' => e = .returned (.int .i64 (cmpB x.nm b)) ∧ Below w.heap.size w w' := by
 go_enter Tryz.func95, Tryz.ntmps95
 go_wp2_with fail
 refine (c96 x.nm b _).mono ?_
 rintro e w1 ⟨rfl, hw⟩
 obtain rfl := hw.symm
 go_wp2
 go_ret
 exact ⟨rfl, (Below.refl _ _).alloc (Nat.le_refl _) _⟩
structure PlaceM (ms : List M3) (t : ByteArray) (p : Nat) (f : Bool) : Prop where
 le : p ≤ ms.length
 less : ∀ j, j < p → lt (ms.getD j m3z).nm t = true
 more : ∀ j, p ≤ j → j < ms.length → lt (ms.getD j m3z).nm t = false
 here : f = true ↔ p < ms.length ∧ (ms.getD p m3z).nm = t
def AscM (ms : List M3) : Prop := ∀ i j, i < j → j < ms.length → lt (ms.getD i m3z).nm (ms.getD j m3z).nm = true
def HalfM (ms : List M3) (t : ByteArray) (i j : Nat) : Prop := (∀ q, q < i → lt (ms.getD q m3z).nm t = true) ∧ ∀ q, j ≤ q → q < ms.length → lt (ms.getD q m3z).nm t = false
theorem halfM_up {ms : List M3} {t : ByteArray} {i j h : Nat} (hm : AscM ms) (hh : HalfM ms t i j) (hl : h < ms.length) (hx : lt (ms.getD h m3z).nm t = true) : HalfM ms t (h + 1) j := by
 refine ⟨fun q hq => ?_, hh.2⟩
 rcases Nat.lt_or_ge q h with h1 | h1
 · exact lt_trans' (hm q h h1 hl) hx
 · obtain rfl : q = h := by omega
   exact hx
theorem halfM_down {ms : List M3} {t : ByteArray} {i j h : Nat} (hm : AscM ms) (hh : HalfM ms t i j) (hx : lt (ms.getD h m3z).nm t = false) : HalfM ms t i h := by
 refine ⟨hh.1, fun q hq hl => ?_⟩
 rcases Nat.lt_or_ge h q with h1 | h1
 · cases hc : lt (ms.getD q m3z).nm t
   · rfl
   · rw [lt_trans' (hm h q h1 hl) hc] at hx; cases hx
 · obtain rfl : q = h := by omega
   exact hx
set_option maxHeartbeats 1000000 in
theorem c94 (a : Option Addr) (cap : Nat) (ms : List M3) (t : ByteArray) (w : World) (hl : ms.length ≤ 300) (hat : MksAt w a ms) (hm : AscM ms) :
 Calls Tryz.prog 94 #[.slice a ms.length cap, .string t, .func (.func 95) #[] #[]] w fun e w' => (∃ p f, e = .returned (.tuple #[.int .i64 (p : Nat), .bool f]) ∧ PlaceM ms t p f) ∧ Below w.heap.size w w' := by
 obtain ⟨b, off, hc⟩ := mks_some hat
 have HC : Hid (ms = [] ∨ (a = some ⟨b, off, none⟩ ∧ b < w.heap.size ∧ ∀ i, i < ms.length → w.cell? ⟨b, off + i * 3, none⟩ = some (.string (ms.getD i m3z).nm) ∧ w.cell? ⟨b, off + i * 3 + 1, none⟩ = some (.string (ms.getD i m3z).tl) ∧ w.cell? ⟨b, off + i * 3 + 2, none⟩ = some (.string (ms.getD i m3z).ar))) := hc
 have HM : Hid (AscM ms) := hm
 clear hc hat hm
 go_enter Tryz.func94, Tryz.ntmps94
 go_wp2_with fail
 go_loopw [9, 10] (fun vi vj wr => ∃ i j : Nat, i ≤ j ∧ j ≤ ms.length ∧ vi = .int .i64 i ∧ vj = .int .i64 j ∧ Below w.heap.size w wr ∧ Hid (HalfM ms t i j)) (fun vi vj _ => (intOf vj).toNat - (intOf vi).toNat)
 case atStart => exact ⟨0, ms.length, Nat.zero_le _, Nat.le_refl _, rfl, rfl, Below.refl _ _, ⟨fun q h => absurd h (Nat.not_lt_zero _), fun q h k => by omega⟩⟩
 case round =>
  obtain ⟨i, j, hij, hj, rfl, rfl, hb, hh⟩ := hrel
  by_cases hlt : i < j
  · rcases HC.out with hss | ⟨ha, hbw, hcell⟩
    · rw [hss] at hj; simp at hj; omega
    subst ha
    have hhl : (i + j) / 2 < ms.length := by omega
    have g0 := (hb.cell (p := ⟨b, off + (i + j) / 2 * 3, none⟩) hbw).trans (hcell _ hhl).1
    have g1 := (hb.cell (p := ⟨b, off + (i + j) / 2 * 3 + 1, none⟩) hbw).trans (hcell _ hhl).2.1
    have g2 := (hb.cell (p := ⟨b, off + (i + j) / 2 * 3 + 2, none⟩) hbw).trans (hcell _ hhl).2.2
    have HU : Hid (lt (ms.getD ((i + j) / 2) m3z).nm t = true → HalfM ms t ((i + j) / 2 + 1) j) := fun hx => halfM_up HM.out hh.out hhl hx
    have HD : Hid (lt (ms.getD ((i + j) / 2) m3z).nm t = false → HalfM ms t i ((i + j) / 2)) := fun hx => halfM_down HM.out hh.out hx
    generalize ms.getD ((i + j) / 2) m3z = x at *
    clear hcell
    go_wp2_with fail
    refine (c95 x t wr).mono ?_
    rintro e w1 ⟨rfl, hb1⟩
    have hB1 : Below w.heap.size w w1 := hb.trans (hb1.mono hb.size)
    cases hx : lt x.nm t
    · have hc : ¬ cmpB x.nm t < 0 := fun h => by rw [(cmpB_neg _ _).1 h] at hx; cases hx
      have hc1 : decide (cmpB x.nm t < 0) = false := decide_eq_false hc
      have hn : Hid (HalfM ms t i ((i + j) / 2)) := HD.out hx
      clear hx hb1 HU HD
      go_wp2
      go_roundw
      case rel => exact ⟨i, (i + j) / 2, by omega, by omega, rfl, by go_num, hB1, hn⟩
      case measure => simp [intOf]; omega
    · have hc : cmpB x.nm t < 0 := (cmpB_neg _ _).2 hx
      have hn : Hid (HalfM ms t ((i + j) / 2 + 1) j) := HU.out hx
      clear hx hb1 HU HD
      go_wp2
      go_roundw
      case rel => exact ⟨(i + j) / 2 + 1, j, by omega, by omega, by go_num, rfl, hB1, hn⟩
      case measure => simp [intOf]; omega
  · obtain rfl : i = j := by omega
    by_cases hin : i < ms.length
    · rcases HC.out with hss | ⟨ha, hbw, hcell⟩
      · rw [hss] at hin; exact absurd hin (Nat.not_lt_zero _)
      subst ha
      have g0 := (hb.cell (p := ⟨b, off + i * 3, none⟩) hbw).trans (hcell i hin).1
      have g1 := (hb.cell (p := ⟨b, off + i * 3 + 1, none⟩) hbw).trans (hcell i hin).2.1
      have g2 := (hb.cell (p := ⟨b, off + i * 3 + 2, none⟩) hbw).trans (hcell i hin).2.2
      have HP : Hid (∀ f : Bool, (f = true ↔ (ms.getD i m3z).nm = t) → PlaceM ms t i f) := fun f hf => ⟨by omega, hh.out.1, hh.out.2, hf.trans ⟨fun h => ⟨hin, h⟩, fun h => h.2⟩⟩
      generalize ms.getD i m3z = x at *
      clear hcell
      go_wp2_with fail
      refine (c95 x t wr).mono ?_
      rintro e w1 ⟨rfl, hb1⟩
      have hB1 : Below w.heap.size w w1 := hb.trans (hb1.mono hb.size)
      go_wp2
      all_goals go_ret2
      all_goals exact ⟨⟨i, _, rfl, HP.out _ (by rw [← cmpB_zero]; simp)⟩, hB1⟩
    · have HP : Hid (PlaceM ms t i false) := ⟨by omega, hh.out.1, hh.out.2, by simp; omega⟩
      have hd : decide ((i : Int) < (ms.length : Int)) = false := decide_eq_false (by omega)
      go_wp2
      all_goals go_ret2
      all_goals exact ⟨⟨i, false, rfl, HP.out⟩, hb⟩
end Go.Proofs.YtboojefodbjbcaaGreatDoor.G
