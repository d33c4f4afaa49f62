import Derived.Test.YtlfokigiejcfoaaGreatDoorA3
namespace Go.Proofs.YtlfokigiejcfoaaGreatDoor
open Go.RowKit

def isDig (c : UInt8) : Bool := decide (48 ≤ (c.toNat : Int) ∧ (c.toNat : Int) ≤ 57)
def isGraph (c : UInt8) : Bool := decide (33 ≤ (c.toNat : Int) ∧ (c.toNat : Int) ≤ 126)
def nameOk (l : List UInt8) : Bool := decide (1 ≤ l.length ∧ l.length ≤ 20) && l.all isGraph
def vstep (n : Int) (c : UInt8) : Int := n * 10 + ((c.toNat : Int) - 48)
def val (l : List UInt8) : Int := l.foldl vstep 0
theorem val_snoc (l : List UInt8) (c : UInt8) : val (l ++ [c]) = val l * 10 + ((c.toNat : Int) - 48) := by simp [val, vstep]
theorem dig_iff (c : UInt8) : isDig c = true ↔ 48 ≤ (c.toNat : Int) ∧ (c.toNat : Int) ≤ 57 := by simp [isDig]
theorem graph_iff (c : UInt8) : isGraph c = true ↔ 33 ≤ (c.toNat : Int) ∧ (c.toNat : Int) ≤ 126 := by simp [isGraph]

/-- an induction from the right -/
theorem snoc_ind {P : List UInt8 → Prop} (h0 : P []) (h1 : ∀ l c, P l → P (l ++ [c])) (l : List UInt8) : P l := by
  have h : ∀ r : List UInt8, P r.reverse := fun r => by
    induction r with
    | nil => exact h0
    | cons c r ih => rw [List.reverse_cons]; exact h1 _ _ ih
  have := h l.reverse
  rwa [List.reverse_reverse] at this

theorem val_nonneg (l : List UInt8) : l.all isDig = true → 0 ≤ val l := by
  refine snoc_ind (P := fun l => l.all isDig = true → 0 ≤ val l) (by simp [val]) (fun l c ih h => ?_) l
  rw [List.all_append] at h
  simp only [List.all_cons, List.all_nil, Bool.and_true, Bool.and_eq_true] at h
  have := ih h.1
  have hc := (dig_iff c).1 h.2
  rw [val_snoc]; omega
theorem val_take_le (l : List UInt8) : l.all isDig = true → ∀ k, val (l.take k) ≤ val l := by
  refine snoc_ind (P := fun l => l.all isDig = true → ∀ k, val (l.take k) ≤ val l) (by simp [val]) (fun l c ih h k => ?_) l
  rw [List.all_append] at h
  simp only [List.all_cons, List.all_nil, Bool.and_true, Bool.and_eq_true] at h
  by_cases hk : k ≤ l.length
  · rw [List.take_append_of_le_length hk, val_snoc]
    have := ih h.1 k
    have h0 := val_nonneg l h.1
    have hc := (dig_iff c).1 h.2
    omega
  · rw [List.take_of_length_le (by simp; omega)]; exact Int.le_refl _

/-- no needless zeros: not empty, and a first nought stands alone -/
def lean1 (l : List UInt8) : Bool := !l.isEmpty && !(l.headD 0 == 48 && !(l == [48]))
/-- the decimal from 0 to 40 -/
def num40 (l : List UInt8) : Bool := lean1 l && l.all isDig && decide (val l ≤ 40)

/-- the decimal of a number: with fuel -/
def decF : Nat → Int → List UInt8
  | 0, _ => []
  | f + 1, n => if n < 10 then [UInt8.ofNat (48 + n).toNat] else decF f (n / 10) ++ [UInt8.ofNat (48 + n % 10).toNat]
def dec (n : Int) : List UInt8 := decF (n.toNat + 1) n
theorem decF_any (f g : Nat) (n : Int) (h0 : 0 ≤ n) (hf : n.toNat < f) (hg : n.toNat < g) : decF f n = decF g n := by
  induction f generalizing g n with
  | zero => omega
  | succ f ih =>
    cases g with
    | zero => omega
    | succ g =>
      simp only [decF]
      by_cases h : n < 10
      · rw [if_pos h, if_pos h]
      · rw [if_neg h, if_neg h, ih g (n / 10) (by omega) (by omega) (by omega)]
theorem dec_lt (n : Int) (h : n < 10) : dec n = [UInt8.ofNat (48 + n).toNat] := by simp [dec, decF, h]
theorem dec_ge (n : Int) (h : 10 ≤ n) : dec n = dec (n / 10) ++ [UInt8.ofNat (48 + n % 10).toNat] := by
  unfold dec
  rw [decF, if_neg (by omega), decF_any n.toNat ((n / 10).toNat + 1) (n / 10) (by omega) (by omega) (by omega)]
theorem dec_ne (n : Int) : dec n ≠ [] := by
  by_cases h : n < 10
  · rw [dec_lt n h]; simp
  · rw [dec_ge n (by omega)]; simp
theorem ofNat_dig (c : UInt8) (h : isDig c = true) : UInt8.ofNat (48 + ((c.toNat : Int) - 48)).toNat = c := by
  have := (dig_iff c).1 h
  rw [show (48 + ((c.toNat : Int) - 48)).toNat = c.toNat by omega]
  exact UInt8.ofNat_toNat

/-- a decimal without needless zeros is the decimal of its value, and the value of two digits and more is 10 and more -/
theorem dec_val (l : List UInt8) : l.all isDig = true → lean1 l = true → dec (val l) = l ∧ (2 ≤ l.length → 10 ≤ val l) ∧ (l.headD 0 ≠ 48 → 1 ≤ val l) := by
  refine snoc_ind (P := fun l => l.all isDig = true → lean1 l = true → dec (val l) = l ∧ (2 ≤ l.length → 10 ≤ val l) ∧ (l.headD 0 ≠ 48 → 1 ≤ val l)) (by simp [lean1]) (fun l c ih h hl => ?_) l
  rw [List.all_append] at h
  simp only [List.all_cons, List.all_nil, Bool.and_true, Bool.and_eq_true] at h
  have hc := (dig_iff c).1 h.2
  have hd := ofNat_dig c h.2
  cases l with
  | nil =>
    have e : val ([] ++ [c]) = (c.toNat : Int) - 48 := by rw [val_snoc]; simp [val]
    rw [e]
    refine ⟨?_, by simp, ?_⟩
    · rw [dec_lt _ (by omega), hd]; rfl
    · intro h1
      simp at h1
      have : c.toNat ≠ 48 := fun e => h1 (by rw [← UInt8.toNat_inj]; exact e)
      omega
  | cons a r =>
    have ha : a ≠ 48 := by
      intro e
      subst e
      simp [lean1] at hl
    have hl' : lean1 (a :: r) = true := by simp [lean1, ha]
    obtain ⟨h1, _, h3⟩ := ih h.1 hl'
    have h4 := h3 (by simpa using ha)
    rw [val_snoc]
    have hdiv : (val (a :: r) * 10 + ((c.toNat : Int) - 48)) / 10 = val (a :: r) := by omega
    have hmod : (val (a :: r) * 10 + ((c.toNat : Int) - 48)) % 10 = (c.toNat : Int) - 48 := by omega
    refine ⟨?_, fun _ => by omega, fun _ => by omega⟩
    rw [dec_ge _ (by omega), hdiv, hmod, h1, hd]
/-- the decimal of a number has no needless zeros -/
theorem dec_lean (f : Nat) (n : Int) (h0 : 0 ≤ n) (hf : n.toNat < f) : lean1 (dec n) = true ∧ (1 ≤ n → (dec n).headD 0 ≠ 48) := by
  induction f generalizing n with
  | zero => omega
  | succ f ih =>
    by_cases h : n < 10
    · rw [dec_lt n h]
      obtain rfl | rfl | rfl | rfl | rfl | rfl | rfl | rfl | rfl | rfl : n = 0 ∨ n = 1 ∨ n = 2 ∨ n = 3 ∨ n = 4 ∨ n = 5 ∨ n = 6 ∨ n = 7 ∨ n = 8 ∨ n = 9 := by omega
      all_goals decide
    · obtain ⟨h1, h2⟩ := ih (n / 10) (by omega) (by omega)
      have h3 := h2 (by omega)
      rw [dec_ge n (by omega)]
      have hne := dec_ne (n / 10)
      generalize dec (n / 10) = l at *
      cases l with
      | nil => exact absurd rfl hne
      | cons a r =>
        have ha : a ≠ 48 := by simpa using h3
        exact ⟨by simp [lean1, ha], fun _ => by simpa using ha⟩
theorem val_dig_len (l : List UInt8) (h : l.all isDig = true) (hl : lean1 l = true) (h40 : val l ≤ 40) : l.length ≤ 2 := by
  rcases Nat.lt_or_ge 2 l.length with h2 | h2
  · exfalso
    rcases List.eq_nil_or_concat l with e | ⟨r, c, e⟩
    · subst e; simp at h2
    · rw [List.concat_eq_append] at e
      subst e
      rw [List.all_append] at h
      simp only [List.all_cons, List.all_nil, Bool.and_true, Bool.and_eq_true] at h
      have hr : 2 ≤ r.length := by simp at h2; omega
      cases r with
      | nil => simp at hr
      | cons a r =>
        have ha : a ≠ 48 := by
          intro e
          subst e
          simp [lean1] at hl
        have := (dec_val (a :: r) h.1 (by simp [lean1, ha])).2.1 hr
        have hc := (dig_iff c).1 h.2
        rw [val_snoc] at h40
        omega
  · exact h2
end Go.Proofs.YtlfokigiejcfoaaGreatDoor
namespace Go.Proofs.YtlfokigiejcfoaaGreatDoor
theorem decF_len (f : Nat) (n : Int) : (decF f n).length ≤ f := by
  induction f generalizing n with
  | zero => simp [decF]
  | succ f ih =>
    simp only [decF]
    by_cases h : n < 10
    · rw [if_pos h]; simp
    · rw [if_neg h]; have := ih (n / 10); simp; omega
theorem dec_len (n : Int) (h : 0 ≤ n) (h1 : n ≤ 100000000) : (dec n).length ≤ 100000001 := by
  have := decF_len (n.toNat + 1) n
  unfold dec; omega
theorem div_formB (n : Int) (h : 0 ≤ n) (h1 : n ≤ 100000000) : IntKind.i64.wrap (n.tdiv 10) = n / 10 := by
  rw [Int.tdiv_eq_ediv_of_nonneg h]
  simp [IntKind.wrap, IntKind.signed, IntKind.bits]; omega
theorem mod_formB (n : Int) (h : 0 ≤ n) : IntKind.u8.wrap (IntKind.i64.wrap (48 + n.tmod 10)) = 48 + n % 10 := by
  rw [Int.tmod_eq_emod_of_nonneg h]
  simp [IntKind.wrap, IntKind.signed, IntKind.bits]; omega
open Go.RowKit
def ofL (l : List UInt8) : ByteArray := ⟨l.toArray⟩
theorem ofL_size (l : List UInt8) : (ofL l).size = l.length := by simp [ofL, ByteArray.size]
theorem cat_ofL (a b : List UInt8) : ofL a ++ ofL b = ofL (a ++ b) := by apply ByteArray.ext; simp [ofL]
theorem one_ofL (c : UInt8) : (⟨#[c]⟩ : ByteArray) = ofL [c] := rfl
theorem ret_str {a b : ByteArray} (h : a = b) : Ending.returned (.string a) = .returned (.string b) := by rw [h]
theorem div_form (n : Int) (h : 0 ≤ n) (h1 : n ≤ 100000000) : IntKind.i64.wrap (n.tdiv 10) = n / 10 := by
  rw [Int.tdiv_eq_ediv_of_nonneg h]
  simp [IntKind.wrap, IntKind.signed, IntKind.bits]; omega
theorem mod_form (n : Int) (h : 0 ≤ n) : IntKind.u8.wrap (IntKind.i64.wrap (48 + n.tmod 10)) = 48 + n % 10 := by
  rw [Int.tmod_eq_emod_of_nonneg h]
  simp [IntKind.wrap, IntKind.signed, IntKind.bits]; omega
theorem cons_ofL (x : Int) (l : List UInt8) : strOfNums [x] ++ ofL l = ofL (UInt8.ofNat x.toNat :: l) := by
  apply ByteArray.ext
  simp [ofL, strOfNums]
set_option maxHeartbeats 400000 in
theorem c49k (K : Int) (w : World) (h1 : 1 ≤ K) (h2 : K ≤ 10000000) :
    Calls Tryz.prog 49 #[.int .i64 K] w fun e w' => e = .returned (.string (ofL (109 :: dec K))) ∧ Below w.heap.size w w' := by
  have hcv := conv1
  have hcd := convD
  have hz : ∀ y, (strOfNums [y]).size = 1 := fun y => strOfNums_size [y]
  have hdl := dec_len K (by omega) (by omega)
  go_enter Tryz.func49, Tryz.ntmps49
  go_wp2_with fail
  go_loopw [0, 3] (fun k o wr => ∃ (m : Int) (l : List UInt8), 0 ≤ m ∧ m ≤ 10000000 ∧ k = .int .i64 m ∧ o = .string (ofL l) ∧ Hid (dec K = if m = 0 then l else dec m ++ l) ∧ Below w.heap.size w wr) (fun k _ _ => (intOf k).toNat)
  case atStart => exact ⟨K, [], by omega, h2, rfl, rfl, by rw [if_neg (by omega)]; simp [Hid], Below.refl _ _⟩
  case round =>
    obtain ⟨m, l, hm0, hm1, rfl, rfl, hl, hb⟩ := hrel
    by_cases hlt : 0 < m
    · have hsz : (ofL l).size ≤ 100000001 := by
        have := hl.out
        rw [if_neg (by omega)] at this
        have := congrArg List.length this
        rw [List.length_append] at this
        rw [ofL_size]; omega
      have HN : Hid (dec K = if m / 10 = 0 then UInt8.ofNat (48 + m % 10).toNat :: l else dec (m / 10) ++ (UInt8.ofNat (48 + m % 10).toNat :: l)) := by
        have h := hl.out
        rw [if_neg (by omega)] at h
        by_cases h10 : m < 10
        · rw [dec_lt m h10] at h
          rw [if_pos (by omega), show m % 10 = m by omega]
          exact h
        · rw [dec_ge m (by omega)] at h
          rw [if_neg (by omega)]
          exact h.trans (by simp)
      go_wp2
      go_roundw
      case rel => exact ⟨m / 10, _, by omega, by omega, rfl, by rw [cons_ofL], HN, hb.alloc hb.size _⟩
      case measure => simp [intOf]; omega
    · obtain rfl : m = 0 := by omega
      have HN : Hid (dec K = l) := by have h := hl.out; rwa [if_pos rfl] at h
      have hsz : (ofL l).size ≤ 100000001 := by rw [ofL_size, ← HN.out]; exact hdl
      go_wp2
      go_ret
      exact ⟨ret_str (by rw [HN.out]; simp only [one_ofL, cat_ofL]; rfl), hb⟩


end Go.Proofs.YtlfokigiejcfoaaGreatDoor
