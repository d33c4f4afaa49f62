import Derived.Test.YtggcgnfockpgmaaGreatDoorW1
import Derived.Lib.Bytealg
import Derived.Deep.RegionHeld3
namespace Go.Proofs.YtggcgnfockpgmaaGreatDoor.T
open Go.RowKit
theorem cmp_neg : ∀ (a b : List UInt8), Lib.compareBytes a b < 0 ↔ Op.bytesLess a b = true
  | [], [] => by simp [Lib.compareBytes, Op.bytesLess]
  | [], _ :: _ => by simp [Lib.compareBytes, Op.bytesLess]
  | _ :: _, [] => by simp [Lib.compareBytes, Op.bytesLess]
  | x :: a, y :: b => by
    have ih := cmp_neg a b
    simp only [Lib.compareBytes, Op.bytesLess]
    by_cases h1 : x < y
    · simp [h1]
    · by_cases h2 : y < x
      · have h3 : ¬ x = y := fun e => by subst e; exact UInt8.lt_irrefl x h2
        simp [h1, h2, h3]
      · have h3 : x = y := UInt8.le_antisymm (UInt8.not_lt.1 h2) (UInt8.not_lt.1 h1)
        subst h3
        simp [h1, ih]
theorem cmp_zero : ∀ (a b : List UInt8), Lib.compareBytes a b = 0 ↔ a = b
  | [], [] => by simp [Lib.compareBytes]
  | [], _ :: _ => by simp [Lib.compareBytes]
  | _ :: _, [] => by simp [Lib.compareBytes]
  | x :: a, y :: b => by
    have ih := cmp_zero a b
    simp only [Lib.compareBytes]
    by_cases h1 : x < y
    · have h3 : ¬ x = y := fun e => by subst e; exact UInt8.lt_irrefl x h1
      simp [h1, h3]
    · by_cases h2 : y < x
      · have h3 : ¬ x = y := fun e => by subst e; exact UInt8.lt_irrefl x h2
        simp [h1, h2, h3]
      · have h3 : x = y := UInt8.le_antisymm (UInt8.not_lt.1 h2) (UInt8.not_lt.1 h1)
        subst h3
        simp [h1, ih]
/-- a < b -/
def lt (a b : ByteArray) : Bool := Op.bytesLess a.toList b.toList
/-- what Compare says -/
def cmpB (a b : ByteArray) : Int := Lib.compareBytes a.data.toList b.data.toList
theorem cmpB_neg (a b : ByteArray) : cmpB a b < 0 ↔ lt a b = true := by
  unfold cmpB lt
  rw [cmp_neg, ByteArray.toList_eq, ByteArray.toList_eq]
theorem cmpB_zero (a b : ByteArray) : cmpB a b = 0 ↔ a = b := by
  unfold cmpB
  rw [cmp_zero]
  exact ⟨fun h => ByteArray.ext (Array.toList_inj.1 h), fun h => by rw [h]⟩
set_option maxHeartbeats 400000 in
theorem c74 (a b : ByteArray) (w : World) :
    Calls Tryz.prog 74 #[.string a, .string b] w fun e w' => e = .returned (.int .i64 (cmpB a b)) ∧ w' = w := by
  have hrun : ∀ u : World, (callFunc 88 #[.string a, .string b]).run Tryz.prog u = .ok (.value (.int .i64 (cmpB a b))) u := fun u => by
    rw [run_callFunc_extern Tryz.func88 (by kernel_rfl) (by kernel_rfl) (by kernel_rfl) (e := Extern.BytealgCompare.compare) (by kernel_rfl), Lib.run_compareString]
    rfl
  go_enter Tryz.func74, Tryz.ntmps74
  go_wp2
  go_ret
  exact ⟨rfl, rfl⟩
set_option maxHeartbeats 400000 in
theorem c58 (a b : ByteArray) (w : World) :
    Calls Tryz.prog 58 #[.string a, .string b] w fun e w' => e = .returned (.int .i64 (cmpB a b)) ∧ w' = w := by
  go_enter Tryz.func58, Tryz.ntmps58
  go_wp2_with fail
  refine (c74 a b _).mono ?_
  rintro e w1 ⟨rfl, hw⟩
  obtain rfl := hw.symm
  go_wp2
  go_ret
  exact ⟨rfl, rfl⟩
set_option maxHeartbeats 400000 in
theorem c69 (x : F2) (b : ByteArray) (w : World) :
    Calls Tryz.prog 69 #[.agg #[.string x.nm, .string x.tx], .string b] w fun e w' => e = .returned (.int .i64 (cmpB x.nm b)) ∧ Below w.heap.size w w' := by
  go_enter Tryz.func69, Tryz.ntmps69
  go_wp2_with fail
  refine (c58 x.nm b _).mono ?_
  rintro e w1 ⟨rfl, hw⟩
  obtain rfl := hw.symm
  go_wp2
  go_ret
  exact ⟨rfl, (Below.refl _ _).alloc (Nat.le_refl _) _⟩
theorem less_trans : ∀ (a b c : List UInt8), Op.bytesLess a b = true → Op.bytesLess b c = true → Op.bytesLess a c = true
  | _, [], _, h, _ => by simp [Op.bytesLess] at h
  | _, _ :: _, [], _, h => by simp [Op.bytesLess] at h
  | [], _ :: _, _ :: _, _, _ => by simp [Op.bytesLess]
  | x :: a, y :: b, z :: c, h, k => by
    have ih := less_trans a b c
    simp only [Op.bytesLess, Bool.or_eq_true, Bool.and_eq_true, decide_eq_true_eq, beq_iff_eq] at h k ⊢
    rcases h with h | ⟨rfl, h⟩
    · rcases k with k | ⟨rfl, k⟩
      · exact .inl (UInt8.lt_trans h k)
      · exact .inl h
    · rcases k with k | ⟨rfl, k⟩
      · exact .inl k
      · exact .inr ⟨rfl, ih h k⟩
theorem less_irrefl : ∀ (a : List UInt8), Op.bytesLess a a = false
  | [] => by simp [Op.bytesLess]
  | x :: a => by simp [Op.bytesLess, less_irrefl a]
theorem lt_trans' {a b c : ByteArray} (h : lt a b = true) (k : lt b c = true) : lt a c = true := less_trans _ _ _ h k
theorem lt_irrefl' (a : ByteArray) : lt a a = false := less_irrefl _
/-- Where a name stands, or would stand. -/
structure Place (fs : List F2) (t : ByteArray) (p : Nat) (f : Bool) : Prop where
  le : p ≤ fs.length
  less : ∀ j, j < p → lt (fs.getD j f2z).nm t = true
  more : ∀ j, p ≤ j → j < fs.length → lt (fs.getD j f2z).nm t = false
  here : f = true ↔ p < fs.length ∧ (fs.getD p f2z).nm = t
def Asc (fs : List F2) : Prop := ∀ i j, i < j → j < fs.length → lt (fs.getD i f2z).nm (fs.getD j f2z).nm = true
def Half (fs : List F2) (t : ByteArray) (i j : Nat) : Prop := (∀ q, q < i → lt (fs.getD q f2z).nm t = true) ∧ ∀ q, j ≤ q → q < fs.length → lt (fs.getD q f2z).nm t = false
theorem half_up {fs : List F2} {t : ByteArray} {i j h : Nat} (hm : Asc fs) (hh : Half fs t i j) (hl : h < fs.length) (hx : lt (fs.getD h f2z).nm t = true) : Half fs t (h + 1) j := by
  refine ⟨fun q hq => ?_, hh.2⟩
  rcases Nat.lt_or_ge q h with h1 | h1
  · exact lt_trans' (hm q h h1 hl) hx
  · obtain rfl : q = h := by omega
    exact hx
theorem half_down {fs : List F2} {t : ByteArray} {i j h : Nat} (hm : Asc fs) (hh : Half fs t i j) (hx : lt (fs.getD h f2z).nm t = false) : Half fs t i h := by
  refine ⟨hh.1, fun q hq hl => ?_⟩
  rcases Nat.lt_or_ge h q with h1 | h1
  · cases hc : lt (fs.getD q f2z).nm t
    · rfl
    · rw [lt_trans' (hm h q h1 hl) hc] at hx; cases hx
  · obtain rfl : q = h := by omega
    exact hx
set_option maxHeartbeats 1000000 in
theorem c68 (a : Option Addr) (cap : Nat) (fs : List F2) (t : ByteArray) (w : World) (hl : fs.length ≤ 40) (hat : FilesAt w a fs) (hm : Asc fs) :
    Calls Tryz.prog 68 #[.slice a fs.length cap, .string t, .func (.func 69) #[] #[]] w fun e w' => (∃ p f, e = .returned (.tuple #[.int .i64 (p : Nat), .bool f]) ∧ Place fs t p f) ∧ Below w.heap.size w w' := by
  obtain ⟨b, off, hc⟩ := files_some hat
  have HC : Hid (fs = [] ∨ (a = some ⟨b, off, none⟩ ∧ b < w.heap.size ∧ ∀ i, i < fs.length → w.cell? ⟨b, off + i * 2, none⟩ = some (.string (fs.getD i f2z).nm) ∧ w.cell? ⟨b, off + i * 2 + 1, none⟩ = some (.string (fs.getD i f2z).tx))) := hc
  have HM : Hid (Asc fs) := hm
  clear hc hat hm
  go_enter Tryz.func68, Tryz.ntmps68
  go_wp2_with fail
  go_loopw [9, 10] (fun vi vj wr => ∃ i j : Nat, i ≤ j ∧ j ≤ fs.length ∧ vi = .int .i64 i ∧ vj = .int .i64 j ∧ Below w.heap.size w wr ∧ Hid (Half fs t i j)) (fun vi vj _ => (intOf vj).toNat - (intOf vi).toNat)
  case atStart => exact ⟨0, fs.length, Nat.zero_le _, Nat.le_refl _, rfl, rfl, Below.refl _ _, ⟨fun q h => absurd h (Nat.not_lt_zero _), fun q h k => by omega⟩⟩
  case round =>
    obtain ⟨i, j, hij, hj, rfl, rfl, hb, hh⟩ := hrel
    by_cases hlt : i < j
    · rcases HC.out with hss | ⟨ha, hbw, hcell⟩
      · rw [hss] at hj; simp at hj; omega
      subst ha
      have hhl : (i + j) / 2 < fs.length := by omega
      have g0 := (hb.cell (p := ⟨b, off + (i + j) / 2 * 2, none⟩) hbw).trans (hcell _ hhl).1
      have g1 := (hb.cell (p := ⟨b, off + (i + j) / 2 * 2 + 1, none⟩) hbw).trans (hcell _ hhl).2
      have HU : Hid (lt (fs.getD ((i + j) / 2) f2z).nm t = true → Half fs t ((i + j) / 2 + 1) j) := fun hx => half_up HM.out hh.out hhl hx
      have HD : Hid (lt (fs.getD ((i + j) / 2) f2z).nm t = false → Half fs t i ((i + j) / 2)) := fun hx => half_down HM.out hh.out hx
      generalize fs.getD ((i + j) / 2) f2z = x at *
      clear hcell
      go_wp2_with fail
      refine (c69 x t wr).mono ?_
      rintro e w1 ⟨rfl, hb1⟩
      have hB1 : Below w.heap.size w w1 := hb.trans (hb1.mono hb.size)
      cases hx : lt x.nm t
      · have hc : ¬ cmpB x.nm t < 0 := fun h => by rw [(cmpB_neg _ _).1 h] at hx; cases hx
        have hc1 : decide (cmpB x.nm t < 0) = false := decide_eq_false hc
        have hn : Hid (Half fs t i ((i + j) / 2)) := HD.out hx
        clear hx hb1 HU HD
        go_wp2
        go_roundw
        case rel => exact ⟨i, (i + j) / 2, by omega, by omega, rfl, by go_num, hB1, hn⟩
        case measure => simp [intOf]; omega
      · have hc : cmpB x.nm t < 0 := (cmpB_neg _ _).2 hx
        have hn : Hid (Half fs t ((i + j) / 2 + 1) j) := HU.out hx
        clear hx hb1 HU HD
        go_wp2
        go_roundw
        case rel => exact ⟨(i + j) / 2 + 1, j, by omega, by omega, by go_num, rfl, hB1, hn⟩
        case measure => simp [intOf]; omega
    · obtain rfl : i = j := by omega
      by_cases hin : i < fs.length
      · rcases HC.out with hss | ⟨ha, hbw, hcell⟩
        · rw [hss] at hin; exact absurd hin (Nat.not_lt_zero _)
        subst ha
        have g0 := (hb.cell (p := ⟨b, off + i * 2, none⟩) hbw).trans (hcell i hin).1
        have g1 := (hb.cell (p := ⟨b, off + i * 2 + 1, none⟩) hbw).trans (hcell i hin).2
        have HP : Hid (∀ f : Bool, (f = true ↔ (fs.getD i f2z).nm = t) → Place fs t i f) := fun f hf => ⟨by omega, hh.out.1, hh.out.2, hf.trans ⟨fun h => ⟨hin, h⟩, fun h => h.2⟩⟩
        generalize fs.getD i f2z = x at *
        clear hcell
        go_wp2_with fail
        refine (c69 x t wr).mono ?_
        rintro e w1 ⟨rfl, hb1⟩
        have hB1 : Below w.heap.size w w1 := hb.trans (hb1.mono hb.size)
        go_wp2
        all_goals go_ret2
        all_goals exact ⟨⟨i, _, rfl, HP.out _ (by rw [← cmpB_zero]; simp)⟩, hB1⟩
      · have HP : Hid (Place fs t i false) := ⟨by omega, hh.out.1, hh.out.2, by simp; omega⟩
        have hd : decide ((i : Int) < (fs.length : Int)) = false := decide_eq_false (by omega)
        go_wp2
        all_goals go_ret2
        all_goals exact ⟨⟨i, false, rfl, HP.out⟩, hb⟩
set_option maxHeartbeats 400000 in
theorem c54 (a : Option Addr) (cap : Nat) (fs : List F2) (t : ByteArray) (w : World) (hl : fs.length ≤ 40) (hat : FilesAt w a fs) (hm : Asc fs) :
    Calls Tryz.prog 54 #[.agg #[.slice a fs.length cap], .string t] w fun e w' => (∃ p f, e = .returned (.tuple #[.int .i64 (p : Nat), .bool f]) ∧ Place fs t p f) ∧ Below w.heap.size w w' := by
  have HA : Hid (FilesAt w a fs) := hat
  have HM : Hid (Asc fs) := hm
  have hB0 : Below w.heap.size w (w.alloc (.cells #[.slice a fs.length cap] 31)) := (Below.refl _ _).alloc (Nat.le_refl _) _
  clear hat hm
  go_enter Tryz.func54, Tryz.ntmps54
  go_wp2_with fail
  refine (c68 a cap fs t _ hl (files_below HA.out hB0) HM.out).mono ?_
  rintro e w1 ⟨⟨p, f, rfl, hp⟩, hb1⟩
  have HP : Hid (Place fs t p f) := hp
  clear hp
  go_wp2
  go_ret2
  exact ⟨⟨p, f, rfl, HP.out⟩, hB0.trans (hb1.mono hB0.size)⟩
/-- A valid tree ascends. -/
theorem asc_of {fs : List F2} (h : treeOk fs) : Asc fs := by
  have step : ∀ j, j + 1 < fs.length → lt (fs.getD j f2z).nm (fs.getD (j + 1) f2z).nm = true := fun j hj => by
    have := h.2 (j + 1) hj
    unfold stepOk at this
    simp only [Bool.and_eq_true, Bool.or_eq_true, decide_eq_true_eq] at this
    rcases this.2 with h | h
    · omega
    · exact h
  intro i j hij
  induction j with
  | zero => omega
  | succ j ih =>
    intro hj
    rcases Nat.lt_or_ge i j with h1 | h1
    · exact lt_trans' (ih h1 (by omega)) (step j hj)
    · obtain rfl : i = j := by omega
      exact step i hj
end Go.Proofs.YtggcgnfockpgmaaGreatDoor.T
