import Derived.Test.YtpjpckmfehfniaaGreatDoorZC01
import Derived.Test.YtpjpckmfehfniaaGreatDoorZC00
import Derived.WalkKit
import Derived.Laws.BytesArg
namespace Go.Proofs.YtpjpckmfehfniaaGreatDoor
open Go.RowKit
theorem ret_bb {a b x y : Bool} (h : a = b) (h' : x = y) : Ending.returned (.tuple #[.bool a, .bool x]) = .returned (.tuple #[.bool b, .bool y]) := by rw [h, h']
set_option maxHeartbeats 1000000 in
theorem c82 (op : Int) (w : World) :
 Calls Tryz.prog 82 #[.int .i64 op] w fun e w' => e = .returned (.tuple #[.bool (usesTx op), .bool (usesTo op)]) ∧ w' = w := by
 go_enter Tryz.func82, Tryz.ntmps82
 go_wp2
 all_goals go_ret2
 all_goals refine ⟨ret_bb ?_ ?_, rfl⟩
 all_goals simp only [usesTx, usesTo]
 all_goals first | rfl | (simp_all; done) | (simp_all; omega)
theorem word_cell (op : Nat) (h1 : 1 ≤ op) (h2 : op ≤ 11) (u : World) : (u.alloc (.cells #[.string ⟨#[]⟩, .string ⟨#[108, 105, 116]⟩, .string ⟨#[97, 114, 103]⟩, .string ⟨#[97, 115, 107]⟩, .string ⟨#[104, 97, 115]⟩, .string ⟨#[112, 117, 116]⟩, .string ⟨#[99, 97, 116]⟩, .string ⟨#[108, 105, 110, 101]⟩, .string ⟨#[105, 102]⟩, .string ⟨#[103, 111]⟩, .string ⟨#[101, 110, 100]⟩, .string ⟨#[102, 97, 105, 108]⟩] 9)).cell? ⟨u.heap.size, op, none⟩ = some (.string (wordA op)) := by
 obtain rfl | rfl | rfl | rfl | rfl | rfl | rfl | rfl | rfl | rfl | rfl : op = 1 ∨ op = 2 ∨ op = 3 ∨ op = 4 ∨ op = 5 ∨ op = 6 ∨ op = 7 ∨ op = 8 ∨ op = 9 ∨ op = 10 ∨ op = 11 := by omega
 all_goals simp [wordA, word]
set_option maxHeartbeats 1000000 in
theorem c81_in (op : Nat) (w : World) (h1 : 1 ≤ op) (h2 : op ≤ 11) :
 Calls Tryz.prog 81 #[.int .i64 op] w fun e w' => e = .returned (.string (wordA op)) ∧ Below w.heap.size w w' := by
 have hd : decide ((1 : Int) ≤ (op : Int) ∧ (op : Int) ≤ 11) = true := by simp; omega
 have hc := word_cell op h1 h2
 go_enter Tryz.func81, Tryz.ntmps81
 go_wp2_with fail
 refine (c67 _ _ _ _).mono ?_
 rintro e w' ⟨rfl, hw⟩
 obtain rfl := hw.symm
 rw [hd]
 go_wp2
 go_ret
 exact ⟨rfl, (Below.refl _ _).alloc (Nat.le_refl _) _⟩
theorem word_out (op : Int) (h : ¬ (1 ≤ op ∧ op ≤ 11)) : word op = [] := by
 unfold word
 repeat (rw [if_neg (by omega)])
theorem word_in (op : Int) (h : 1 ≤ op ∧ op ≤ 11) : word op ≠ [] ∧ (word op).length ≤ 4 := by
 obtain rfl | rfl | rfl | rfl | rfl | rfl | rfl | rfl | rfl | rfl | rfl : op = 1 ∨ op = 2 ∨ op = 3 ∨ op = 4 ∨ op = 5 ∨ op = 6 ∨ op = 7 ∨ op = 8 ∨ op = 9 ∨ op = 10 ∨ op = 11 := by omega
 all_goals decide
set_option maxHeartbeats 1000000 in
theorem c81 (op : Int) (w : World) :
 Calls Tryz.prog 81 #[.int .i64 op] w fun e w' => e = .returned (.string (wordA op)) ∧ Below w.heap.size w w' := by
 by_cases h : 1 ≤ op ∧ op ≤ 11
 · obtain ⟨n, rfl⟩ := Int.eq_ofNat_of_zero_le (show 0 ≤ op by omega)
   exact c81_in n w (by omega) (by omega)
 · have hd : decide (1 ≤ op ∧ op ≤ 11) = false := by simpa using h
   have HW : Hid (wordA op = ⟨#[]⟩) := by unfold wordA; rw [word_out op h]; rfl
   go_enter Tryz.func81, Tryz.ntmps81
   go_wp2_with fail
   refine (c67 _ _ _ _).mono ?_
   rintro e w' ⟨rfl, rfl⟩
   rw [hd]
   go_wp2
   go_ret
   exact ⟨by rw [HW.out]; rfl, Below.refl _ _⟩
theorem okI_bad {x : I3} (h : okI x = true) : (1 ≤ x.op ∧ x.op ≤ 11) ∧ (usesTo x.op = true ∨ x.to = 0) ∧ (usesTx x.op = true ∨ x.tx.toList.isEmpty = true) ∧ 0 ≤ x.to ∧ x.to ≤ 40 ∧ (x.tx.size : Int) ≤ 300 := by
 unfold okI at h
 simp only [Bool.and_eq_true, Bool.or_eq_true, decide_eq_true_eq, beq_iff_eq] at h
 exact ⟨h.1.1.1.1, h.1.1.1.2, h.1.1.2, h.1.2.1, h.1.2.2, h.2⟩
theorem okI_mk {x : I3} (h1 : 1 ≤ x.op ∧ x.op ≤ 11) (h2 : usesTo x.op = true ∨ x.to = 0) (h3 : usesTx x.op = true ∨ x.tx.toList.isEmpty = true) (h4 : 0 ≤ x.to) (h5 : x.to ≤ 40) (h6 : (x.tx.size : Int) ≤ 300) : okI x = true := by
 unfold okI
 simp only [Bool.and_eq_true, Bool.or_eq_true, decide_eq_true_eq, beq_iff_eq]
 exact ⟨⟨⟨⟨h1, h2⟩, h3⟩, h4, h5⟩, h6⟩
theorem wordA_empty (op : Int) : (wordA op).toList.isEmpty = !decide (1 ≤ op ∧ op ≤ 11) := by
 rw [ByteArray.toList_eq]
 by_cases h : 1 ≤ op ∧ op ≤ 11
 · rw [show decide (1 ≤ op ∧ op ≤ 11) = true by simpa using h]
   have := (word_in op h).1
   cases hw : word op with
   | nil => exact absurd hw this
   | cons a r => simp [wordA, hw]
 · rw [show decide (1 ≤ op ∧ op ≤ 11) = false by simpa using h]
   simp [wordA, word_out op h]
set_option maxHeartbeats 4000000 in
theorem c75 (a : Option Addr) (cap : Nat) (is : List I3) (w : World) (hs : ∀ i, (is.getD i i3z).tx.size ≤ 1048700) (hl : is.length ≤ 1048576) (hat : InsAt w a is) :
 Calls Tryz.prog 75 #[.agg #[.slice a is.length cap]] w fun e w' => e = .returned (.bool (okT is)) ∧ Below w.heap.size w w' := by
 by_cases hn : 1 ≤ is.length ∧ is.length ≤ 40
 · have HO : Hid (okT is = is.all okI) := by unfold okT; rw [show decide (1 ≤ is.length ∧ is.length ≤ 40) = true by simpa using hn]; rfl
   have hd : decide ((1 : Int) ≤ (is.length : Int) ∧ (is.length : Int) ≤ 40) = true := by simp; omega
   obtain ⟨hn1, hn2⟩ := hn
   obtain ⟨b, off, hc⟩ := ins_some hat
   rcases hc with hc | ⟨rfl, hbw, hcell⟩
   · rw [hc] at hn1; simp at hn1
   clear hat
   go_enter Tryz.func75, Tryz.ntmps75
   go_wp2_with fail
   refine (c67 _ _ _ _).mono ?_
   rintro e w0 ⟨rfl, hw0⟩
   obtain rfl := hw0.symm
   rw [hd]
   go_wp2_with fail
   go_loopw [3] (fun i wr => ∃ (k : Nat), k ≤ is.length ∧ i = .int .i64 k ∧ Below (w.heap.size + 1) (w.alloc (.cells #[.slice (some ⟨b, off, none⟩) is.length cap] 74)) wr ∧ Hid ((is.take k).all okI = true)) (fun i _ => is.length - (intOf i).toNat)
   case atStart => exact ⟨0, Nat.zero_le _, rfl, Below.refl _ _, rfl⟩
   case round =>
    obtain ⟨k, hk, rfl, hbx, hall⟩ := hrel
    have hb : Below w.heap.size w wr := ((Below.refl w.heap.size w).alloc (Nat.le_refl _) _).trans (hbx.mono (by omega))
    have hcode : wr.cell? ⟨w.heap.size, 0, none⟩ = some (.slice (some ⟨b, off, none⟩) is.length cap) := (hbx.cell (p := ⟨w.heap.size, 0, none⟩) (by simp)).trans (by simp [go_sem])
    by_cases hlt : k < is.length
    · have g0 := (hb.cell (p := ⟨b, off + k * 3, none⟩) hbw).trans (hcell k hlt).1
      have g1 := (hb.cell (p := ⟨b, off + k * 3 + 1, none⟩) hbw).trans (hcell k hlt).2.1
      have g2 := (hb.cell (p := ⟨b, off + k * 3 + 2, none⟩) hbw).trans (hcell k hlt).2.2
      have hxs := hs k
      generalize hx : is.getD k i3z = x at *
      have HX : Hid (is.getD k i3z = x) := hx
      clear hx
      have HCE : Hid (∀ i, i < is.length → w.cell? ⟨b, off + i * 3, none⟩ = some (.int .i64 (is.getD i i3z).op) ∧ w.cell? ⟨b, off + i * 3 + 1, none⟩ = some (.string (is.getD i i3z).tx) ∧ w.cell? ⟨b, off + i * 3 + 2, none⟩ = some (.int .i64 (is.getD i i3z).to)) := hcell
      have hzr : w.heap.size + 1 ≤ wr.heap.size := by have := hbx.size; simp at this; omega
      clear hcell
      go_wp2_with fail
      refine (c82 x.op _).mono ?_
      rintro e w1 ⟨rfl, hw1⟩
      obtain rfl := hw1.symm
      go_wp2_with fail
      refine (c81 x.op _).mono ?_
      rintro e w1 ⟨rfl, hb1⟩
      have he := wordA_empty x.op
      have p0 : w1.cell? ⟨wr.heap.size, 0, none⟩ = some (.int .i64 x.op) := (hb1.cell (p := ⟨wr.heap.size, 0, none⟩) (by simp)).trans (by simp [go_sem])
      have p1 : w1.cell? ⟨wr.heap.size, 1, none⟩ = some (.string x.tx) := (hb1.cell (p := ⟨wr.heap.size, 1, none⟩) (by simp)).trans (by simp [go_sem])
      have p2 : w1.cell? ⟨wr.heap.size, 2, none⟩ = some (.int .i64 x.to) := (hb1.cell (p := ⟨wr.heap.size, 2, none⟩) (by simp)).trans (by simp [go_sem])
      have hBx : Below (w.heap.size + 1) (w.alloc (.cells #[.slice (some ⟨b, off, none⟩) is.length cap] 74)) w1 := (hbx.alloc hzr _).trans (hb1.mono (by simp; omega))
      have hB1 : Below w.heap.size w w1 := ((Below.refl w.heap.size w).alloc (Nat.le_refl _) _).trans (hBx.mono (by omega))
      clear hcode hb hbx hb1 g0 g1 g2
      cases hok : okI x
      · have HN : Hid (okT is = false) := by rw [HO.out]; exact all_not hlt (by rw [HX.out]; exact hok)
        have HK : Hid (okI x = false) := hok
        clear hok
        go_wp2_with (go_at_call 67; refine (c67 _ _ _ _).mono ?_; rintro e w2 ⟨rfl, rfl⟩)
        all_goals first
         | (go_ret; exact ⟨ret_bool HN.out.symm, hB1⟩)
         | (exfalso; refine Bool.false_ne_true (HK.out.symm.trans (okI_mk ?_ ?_ ?_ ?_ ?_ ?_)))
        all_goals first
         | assumption
         | exact .inl (by assumption)
         | exact .inr (by assumption)
         | exact .inr (by rw [show x.tx.toList = [] by assumption]; rfl)
         | (have hh : (x.tx.size : Int) ≤ 300 ∧ (!decide (0 ≤ x.to)) = false ∧ (!decide (x.to ≤ 40)) = false := by assumption
            simp only [Bool.not_eq_false', decide_eq_true_eq] at hh
            omega)
         | omega
      · have hall' : Hid ((is.take (k + 1)).all okI = true) := all_snoc hlt hall.out (by rw [HX.out]; exact hok)
        obtain ⟨o1, o2, o3, o4, o5, o6⟩ := okI_bad hok
        have hd1 : decide (1 ≤ x.op ∧ x.op ≤ 11) = true := by simpa using o1
        have hd2 : decide (0 ≤ x.to ∧ x.to ≤ 40) = true := by simpa using ⟨o4, o5⟩
        clear hok
        rcases o2 with o2 | o2 <;> rcases o3 with o3 | o3
        all_goals
         go_wp2_with (go_at_call 67; refine (c67 _ _ _ _).mono ?_; rintro e w2 ⟨rfl, rfl⟩)
         all_goals go_roundw
         all_goals first
          | exact ⟨k + 1, by omega, by go_num, hBx, hall'⟩
          | (simp [intOf]; omega)
    · have HN : Hid (okT is = true) := by rw [HO.out]; have := hall.out; rwa [List.take_of_length_le (by omega)] at this
      go_wp2
      go_ret
      exact ⟨ret_bool HN.out.symm, hb⟩
 · have HO : Hid (okT is = false) := by unfold okT; rw [show decide (1 ≤ is.length ∧ is.length ≤ 40) = false by simpa using hn]; rfl
   have hd : decide ((1 : Int) ≤ (is.length : Int) ∧ (is.length : Int) ≤ 40) = false := by simp only [decide_eq_false_iff_not]; omega
   clear hat
   go_enter Tryz.func75, Tryz.ntmps75
   go_wp2_with fail
   refine (c67 _ _ _ _).mono ?_
   rintro e w0 ⟨rfl, hw0⟩
   obtain rfl := hw0.symm
   rw [hd]
   go_wp2
   go_ret
   exact ⟨ret_bool HO.out.symm, (Below.refl _ _).alloc (Nat.le_refl _) _⟩
end Go.Proofs.YtpjpckmfehfniaaGreatDoor
/-
 The plain mathematics of names and decimals: no program is named here.
-/
namespace Go.Proofs.YtpjpckmfehfniaaGreatDoor
open Go.RowKit
def isDig (c : UInt8) : Bool := decide (48 ≤ (c.toNat : Int) ∧ (c.toNat : Int) ≤ 57)
def isGraph (c : UInt8) : Bool := decide (33 ≤ (c.toNat : Int) ∧ (c.toNat : Int) ≤ 126)
def nameOk (l : List UInt8) : Bool := decide (1 ≤ l.length ∧ l.length ≤ 20) && l.all isGraph
def vstep (n : Int) (c : UInt8) : Int := n * 10 + ((c.toNat : Int) - 48)
def val (l : List UInt8) : Int := l.foldl vstep 0
theorem val_snoc (l : List UInt8) (c : UInt8) : val (l ++ [c]) = val l * 10 + ((c.toNat : Int) - 48) := by simp [val, vstep]
theorem dig_iff (c : UInt8) : isDig c = true ↔ 48 ≤ (c.toNat : Int) ∧ (c.toNat : Int) ≤ 57 := by simp [isDig]
theorem graph_iff (c : UInt8) : isGraph c = true ↔ 33 ≤ (c.toNat : Int) ∧ (c.toNat : Int) ≤ 126 := by simp [isGraph]
theorem snoc_ind {P : List UInt8 → Prop} (h0 : P []) (h1 : ∀ l c, P l → P (l ++ [c])) (l : List UInt8) : P l := by
 have h : ∀ r : List UInt8, P r.reverse := fun r => by
  induction r with
  | nil => exact h0
  | cons c r ih => rw [List.reverse_cons]; exact h1 _ _ ih
 have := h l.reverse
 rwa [List.reverse_reverse] at this
theorem val_nonneg (l : List UInt8) : l.all isDig = true → 0 ≤ val l := by
 refine snoc_ind (P := fun l => l.all isDig = true → 0 ≤ val l) (by simp [val]) (fun l c ih h => ?_) l
 rw [List.all_append] at h
 simp only [List.all_cons, List.all_nil, Bool.and_true, Bool.and_eq_true] at h
 have := ih h.1
 have hc := (dig_iff c).1 h.2
 rw [val_snoc]; omega
theorem val_take_le (l : List UInt8) : l.all isDig = true → ∀ k, val (l.take k) ≤ val l := by
 refine snoc_ind (P := fun l => l.all isDig = true → ∀ k, val (l.take k) ≤ val l) (by simp [val]) (fun l c ih h k => ?_) l
 rw [List.all_append] at h
 simp only [List.all_cons, List.all_nil, Bool.and_true, Bool.and_eq_true] at h
 by_cases hk : k ≤ l.length
 · rw [List.take_append_of_le_length hk, val_snoc]
   have := ih h.1 k
   have h0 := val_nonneg l h.1
   have hc := (dig_iff c).1 h.2
   omega
 · rw [List.take_of_length_le (by simp; omega)]; exact Int.le_refl _
def lean1 (l : List UInt8) : Bool := !l.isEmpty && !(l.headD 0 == 48 && !(l == [48]))
def num40 (l : List UInt8) : Bool := lean1 l && l.all isDig && decide (val l ≤ 40)
def decF : Nat → Int → List UInt8
 | 0, _ => []
 | f + 1, n => if n < 10 then [UInt8.ofNat (48 + n).toNat] else decF f (n / 10) ++ [UInt8.ofNat (48 + n % 10).toNat]
def dec (n : Int) : List UInt8 := decF (n.toNat + 1) n
theorem decF_any (f g : Nat) (n : Int) (h0 : 0 ≤ n) (hf : n.toNat < f) (hg : n.toNat < g) : decF f n = decF g n := by
 induction f generalizing g n with
 | zero => omega
 | succ f ih =>
   cases g with
   | zero => omega
   | succ g =>
     simp only [decF]
     by_cases h : n < 10
     · rw [if_pos h, if_pos h]
     · rw [if_neg h, if_neg h, ih g (n / 10) (by omega) (by omega) (by omega)]
theorem dec_lt (n : Int) (h : n < 10) : dec n = [UInt8.ofNat (48 + n).toNat] := by simp [dec, decF, h]
theorem dec_ge (n : Int) (h : 10 ≤ n) : dec n = dec (n / 10) ++ [UInt8.ofNat (48 + n % 10).toNat] := by
 unfold dec
 rw [decF, if_neg (by omega), decF_any n.toNat ((n / 10).toNat + 1) (n / 10) (by omega) (by omega) (by omega)]
theorem dec_ne (n : Int) : dec n ≠ [] := by
 by_cases h : n < 10
 · rw [dec_lt n h]; simp
 · rw [dec_ge n (by omega)]; simp
theorem ofNat_dig (c : UInt8) (h : isDig c = true) : UInt8.ofNat (48 + ((c.toNat : Int) - 48)).toNat = c := by
 have := (dig_iff c).1 h
 rw [show (48 + ((c.toNat : Int) - 48)).toNat = c.toNat by omega]
 exact UInt8.ofNat_toNat
theorem dec_val (l : List UInt8) : l.all isDig = true → lean1 l = true → dec (val l) = l ∧ (2 ≤ l.length → 10 ≤ val l) ∧ (l.headD 0 ≠ 48 → 1 ≤ val l) := by
 refine snoc_ind (P := fun l => l.all isDig = true → lean1 l = true → dec (val l) = l ∧ (2 ≤ l.length → 10 ≤ val l) ∧ (l.headD 0 ≠ 48 → 1 ≤ val l)) (by simp [lean1]) (fun l c ih h hl => ?_) l
 rw [List.all_append] at h
 simp only [List.all_cons, List.all_nil, Bool.and_true, Bool.and_eq_true] at h
 have hc := (dig_iff c).1 h.2
 have hd := ofNat_dig c h.2
 cases l with
 | nil =>
   have e : val ([] ++ [c]) = (c.toNat : Int) - 48 := by rw [val_snoc]; simp [val]
   rw [e]
   refine ⟨?_, by simp, ?_⟩
   · rw [dec_lt _ (by omega), hd]; rfl
   · intro h1
     simp at h1
     have : c.toNat ≠ 48 := fun e => h1 (by rw [← UInt8.toNat_inj]; exact e)
     omega
 | cons a r =>
   have ha : a ≠ 48 := by
    intro e
    subst e
    simp [lean1] at hl
   have hl' : lean1 (a :: r) = true := by simp [lean1, ha]
   obtain ⟨h1, _, h3⟩ := ih h.1 hl'
   have h4 := h3 (by simpa using ha)
   rw [val_snoc]
   have hdiv : (val (a :: r) * 10 + ((c.toNat : Int) - 48)) / 10 = val (a :: r) := by omega
   have hmod : (val (a :: r) * 10 + ((c.toNat : Int) - 48)) % 10 = (c.toNat : Int) - 48 := by omega
   refine ⟨?_, fun _ => by omega, fun _ => by omega⟩
   rw [dec_ge _ (by omega), hdiv, hmod, h1, hd]
theorem dec_lean (f : Nat) (n : Int) (h0 : 0 ≤ n) (hf : n.toNat < f) : lean1 (dec n) = true ∧ (1 ≤ n → (dec n).headD 0 ≠ 48) := by
 induction f generalizing n with
 | zero => omega
 | succ f ih =>
   by_cases h : n < 10
   · rw [dec_lt n h]
     obtain rfl | rfl | rfl | rfl | rfl | rfl | rfl | rfl | rfl | rfl : n = 0 ∨ n = 1 ∨ n = 2 ∨ n = 3 ∨ n = 4 ∨ n = 5 ∨ n = 6 ∨ n = 7 ∨ n = 8 ∨ n = 9 := by omega
     all_goals decide
   · obtain ⟨h1, h2⟩ := ih (n / 10) (by omega) (by omega)
     have h3 := h2 (by omega)
     rw [dec_ge n (by omega)]
     have hne := dec_ne (n / 10)
     generalize dec (n / 10) = l at *
     cases l with
     | nil => exact absurd rfl hne
     | cons a r =>
       have ha : a ≠ 48 := by simpa using h3
       exact ⟨by simp [lean1, ha], fun _ => by simpa using ha⟩
theorem val_dig_len (l : List UInt8) (h : l.all isDig = true) (hl : lean1 l = true) (h40 : val l ≤ 40) : l.length ≤ 2 := by
 rcases Nat.lt_or_ge 2 l.length with h2 | h2
 · exfalso
   rcases List.eq_nil_or_concat l with e | ⟨r, c, e⟩
   · subst e; simp at h2
   · rw [List.concat_eq_append] at e
     subst e
     rw [List.all_append] at h
     simp only [List.all_cons, List.all_nil, Bool.and_true, Bool.and_eq_true] at h
     have hr : 2 ≤ r.length := by simp at h2; omega
     cases r with
     | nil => simp at hr
     | cons a r =>
       have ha : a ≠ 48 := by
        intro e
        subst e
        simp [lean1] at hl
       have := (dec_val (a :: r) h.1 (by simp [lean1, ha])).2.1 hr
       have hc := (dig_iff c).1 h.2
       rw [val_snoc] at h40
       omega
 · exact h2
end Go.Proofs.YtpjpckmfehfniaaGreatDoor
namespace Go.Proofs.YtpjpckmfehfniaaGreatDoor
theorem decF_len (f : Nat) (n : Int) : (decF f n).length ≤ f := by
 induction f generalizing n with
 | zero => simp [decF]
 | succ f ih =>
   simp only [decF]
   by_cases h : n < 10
   · rw [if_pos h]; simp
   · rw [if_neg h]; have := ih (n / 10); simp; omega
theorem dec_len (n : Int) (h : 0 ≤ n) (h1 : n ≤ 100000000) : (dec n).length ≤ 100000001 := by
 have := decF_len (n.toNat + 1) n
 unfold dec; omega
theorem div_formB (n : Int) (h : 0 ≤ n) (h1 : n ≤ 100000000) : IntKind.i64.wrap (n.tdiv 10) = n / 10 := by
 rw [Int.tdiv_eq_ediv_of_nonneg h]
 simp [IntKind.wrap, IntKind.signed, IntKind.bits]; omega
end Go.Proofs.YtpjpckmfehfniaaGreatDoor
