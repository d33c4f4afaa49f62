import Derived.Test.YtdcgjdgpiogdaaaGreatDoorYS
import Derived.Test.YtdcgjdgpiogdaaaGreatDoorYF
import Derived.Test.YtdcgjdgpiogdaaaGreatDoorG16
import Derived.Test.YtdcgjdgpiogdaaaGreatDoorG03
namespace Go.Proofs.YtdcgjdgpiogdaaaGreatDoor
open Go.RowKit
/-- A message's lines. -/
def msgL (x : G16) : List UInt8 := if x.kd = 1 then offerL x else if x.kd = 2 then turnL x else hereL x
def Fm (x : G16) (key : ByteArray) : Prop := MsgOk x ∧ key.size ≤ 30
def fmL (x : G16) (key : ByteArray) : List UInt8 := (tagS (ofL (msgL x)) key).data.toList ++ msgL x
theorem isT_iff {P Q : Prop} {l m : List UInt8} {e : Ending} (h : IsT P l e) (hp : P ↔ Q) (hl : P → l = m) : IsT Q m e := by
  obtain ⟨s, he, ⟨h, hs⟩ | ⟨h, hs⟩⟩ := h
  · exact ⟨s, he, .inl ⟨hp.1 h, by rw [hs, hl h]⟩⟩
  · exact ⟨s, he, .inr ⟨fun k => h (hp.2 k), hs⟩⟩
theorem c27m (x : G16) (ai : Option Addr) (ci : Nat) (w : World) (hs : x.le 1048576) (hat : LksAt w ai x.ls) :
    Calls Tryz.prog 27 #[.agg #[.int .i64 x.kd, .int .i64 x.to, .int .i64 x.fr, .int .i64 x.ep, .int .i64 x.ed, .string x.km.nm, .string x.km.tl, .string x.km.ar, .slice ai x.ls.length ci, .int .i64 x.ct, .bool x.tn.over, .int .i64 x.tn.cd, .string x.tn.tx, .bool x.tn.has, .string x.tn.nm, .int .i64 x.tn.st]] w fun e w' => IsT (MsgOk x) (msgL x) e ∧ Below w.heap.size w w' := by
  obtain ⟨kd, to, fr, ep, ed, km, ls, ct, tn⟩ := x
  by_cases h1 : kd = 1
  · subst h1
    refine (c27 ⟨1, to, fr, ep, ed, km, ls, ct, tn⟩ ai ci w hs hat).mono fun e w' ⟨hr, hb⟩ => ⟨isT_iff (P := OfferOk ⟨1, to, fr, ep, ed, km, ls, ct, tn⟩) (l := offerL ⟨1, to, fr, ep, ed, km, ls, ct, tn⟩) hr ⟨fun h => .inl ⟨rfl, h⟩, fun h => ?_⟩ (fun _ => rfl), hb⟩
    rcases h with ⟨_, h⟩ | ⟨h, _⟩ | ⟨h, _⟩
    · exact h
    · cases h
    · cases h
  · by_cases h2 : kd = 2
    · subst h2
      refine (c27_2 ⟨2, to, fr, ep, ed, km, ls, ct, tn⟩ ai ci w hs).mono fun e w' ⟨hr, hb⟩ => ⟨isT_iff hr ⟨fun h => .inr (.inl ⟨rfl, h⟩), fun h => ?_⟩ (fun _ => rfl), hb⟩
      rcases h with ⟨h, _⟩ | ⟨_, h⟩ | ⟨h, _⟩
      · cases h
      · exact h
      · cases h
    · by_cases h3 : kd = 3
      · subst h3
        refine (c27_3 ⟨3, to, fr, ep, ed, km, ls, ct, tn⟩ ai ci w hs).mono fun e w' ⟨hr, hb⟩ => ⟨isT_iff hr ⟨fun h => .inr (.inr ⟨rfl, h⟩), fun h => ?_⟩ (fun _ => rfl), hb⟩
        rcases h with ⟨h, _⟩ | ⟨h, _⟩ | ⟨_, h⟩
        · cases h
        · cases h
        · exact h
      · have hno : ¬ MsgOk ⟨kd, to, fr, ep, ed, km, ls, ct, tn⟩ := by
          rintro (⟨h, _⟩ | ⟨h, _⟩ | ⟨h, _⟩)
          · exact h1 h
          · exact h2 h
          · exact h3 h
        exact (c27_no ⟨kd, to, fr, ep, ed, km, ls, ct, tn⟩ ai ci w h1 h2 h3).mono fun e w' ⟨he, hb⟩ => ⟨he ▸ isT_no hno, hb⟩
theorem turn_len {x : G16} (h : TurnOkM x) : (turnL x).length ≤ 15000 ∧ 1 ≤ (turnL x).length := by
  obtain ⟨_, q1, q2, q3, q4, q5, q6⟩ := h
  have m := mom_le q2
  have a := dec_small x.fr (by omega) (by omega)
  have b := dec_small x.ep (by omega) (by omega)
  have c := dec_small x.ed (by omega) (by omega)
  have d := dec_small x.ct (by omega) (by omega)
  have e := dec_small x.tn.st (by omega) (by omega)
  have n := name_len q3
  have l3 := lookW_size x.tn.has
  have l3' : (lookW x.tn.has).data.toList.length = 3 := by rw [← l3]; simp
  unfold turnL turnW firstL num3 num2
  rcases q6 with ⟨ho, hv, _, _⟩ | ⟨ho, _, _, hn⟩
  · rw [if_pos ho]
    have r := res_len (vr_code hv).1 (vr_code hv).2 (vr_len hv)
    simp only [List.length_append, List.length_cons, List.length_nil]
    omega
  · rw [if_neg (by rw [ho]; decide)]
    have n2 := name_len hn
    simp only [List.length_append, List.length_cons, List.length_nil]
    omega
theorem here_len {x : G16} (h : HereOk x) : (hereL x).length ≤ 15000 ∧ 1 ≤ (hereL x).length := by
  have a := dec_small x.fr (by have := h.2; omega) (by have := h.2; omega)
  unfold hereL hereW
  simp only [List.length_append, List.length_cons, List.length_nil]
  omega
theorem msg_len {x : G16} (h : MsgOk x) : (msgL x).length ≤ 15000 ∧ 1 ≤ (msgL x).length := by
  unfold msgL
  rcases h with ⟨k, h⟩ | ⟨k, h⟩ | ⟨k, h⟩
  · rw [if_pos k]
    refine ⟨offer_len h, ?_⟩
    unfold offerL
    simp only [List.length_append, List.length_cons, List.length_nil]
    omega
  · rw [if_neg (by omega), if_pos k]; exact turn_len h
  · rw [if_neg (by omega), if_neg (by omega)]; exact here_len h
theorem tag_size (b k : ByteArray) (hk : k.size ≤ 30) : (tagS b k).size = 8 := by
  unfold tagS
  rw [if_neg (by omega), strOfNums_size, outs_length]
set_option maxHeartbeats 4000000 in
set_option maxRecDepth 100000 in
theorem c13 (x : G16) (key : ByteArray) (ai : Option Addr) (ci : Nat) (w : World) (hs : x.le 1048576) (hat : LksAt w ai x.ls) (hk : key.size ≤ 1048576) :
    Calls Tryz.prog 13 #[.agg #[.int .i64 x.kd, .int .i64 x.to, .int .i64 x.fr, .int .i64 x.ep, .int .i64 x.ed, .string x.km.nm, .string x.km.tl, .string x.km.ar, .slice ai x.ls.length ci, .int .i64 x.ct, .bool x.tn.over, .int .i64 x.tn.cd, .string x.tn.tx, .bool x.tn.has, .string x.tn.nm, .int .i64 x.tn.st], .string key] w fun e w' => IsT (Fm x key) (fmL x key) e ∧ Below w.heap.size w w' := by
  have HAT : Hid (LksAt w ai x.ls) := hat
  have HS : Hid (x.le 1048576) := hs
  have hB0 : ∀ o, Below w.heap.size w (w.alloc o) := fun o => (Below.refl _ _).alloc (Nat.le_refl _) _
  clear hat hs
  go_enter Tryz.func13, Tryz.ntmps13
  go_wp2_with fail
  refine (c27m x ai ci _ HS.out (lks_below HAT.out (hB0 _))).mono ?_
  rintro e w1 ⟨⟨s, rfl, hr⟩, hb0⟩
  have hb1 : Below w.heap.size w w1 := (hB0 _).trans (hb0.mono (by simp))
  clear hb0
  rcases hr with ⟨hm, rfl⟩ | ⟨hm, rfl⟩
  · have hl := msg_len hm
    have z : (ofL (msgL x)).size = (msgL x).length := ofL_size _
    have HE : Hid (tagS (ofL (msgL x)) key ++ ofL (msgL x) = ofL (fmL x key)) := by
      show ofL (tagS (ofL (msgL x)) key).data.toList ++ ofL (msgL x) = _
      rw [cat_ofL]; rfl
    have n1 : ¬ (ofL (msgL x)).size = 0 := by omega
    have n2 : ¬ (ofL (msgL x)).toList = [] := fun h => by rw [ba_nil] at h; rw [h] at n1; exact n1 rfl
    have n3 : (ofL (msgL x)).toList.isEmpty = false := by cases h : (ofL (msgL x)).toList with | nil => exact absurd h n2 | cons => rfl
    by_cases h30 : key.size ≤ 30
    · have HF : Hid (Fm x key) := ⟨hm, h30⟩
      have z8 := tag_size (ofL (msgL x)) key h30
      have k1 : ¬ 9223372036854775807 < (tagS (ofL (msgL x)) key).size + (ofL (msgL x)).size := by omega
      go_wp2_with fail
      refine (c34 (ofL (msgL x)) key _ (by omega) hk).mono ?_
      rintro e w2 ⟨rfl, hb2⟩
      have hB2 : Below w.heap.size w w2 := hb1.trans (hb2.mono hb1.size)
      clear hb2
      go_wp2
      go_ret
      exact ⟨⟨_, rfl, .inl ⟨HF.out, HE.out⟩⟩, hB2⟩
    · have HN : Hid (IsT (Fm x key) (fmL x key) (.returned (.string ⟨#[]⟩))) := isT_no (fun h => h30 h.2)
      go_wp2
      go_ret
      exact ⟨HN.out, hb1⟩
  · have HN : Hid (IsT (Fm x key) (fmL x key) (.returned (.string ⟨#[]⟩))) := isT_no (fun h => hm h.1)
    go_wp2
    go_ret
    exact ⟨HN.out, hb1⟩
end Go.Proofs.YtdcgjdgpiogdaaaGreatDoor
namespace Go.Proofs.YtdcgjdgpiogdaaaGreatDoor
open Go.RowKit

/-- What stands behind so many words, and these. -/
def restN (l : List UInt8) : Nat → List UInt8
  | 0 => l
  | k + 1 => restOf (restN l k)
def wordsN (l : List UInt8) (k : Nat) : List (List UInt8) := (List.range k).map fun j => wordOf (restN l j)
theorem wordsN_succ (l : List UInt8) (k : Nat) : wordsN l (k + 1) = wordsN l k ++ [wordOf (restN l k)] := by simp [wordsN, List.range_succ]
theorem rest_small (l : List UInt8) : (wordOf l).length ≤ l.length ∧ (restOf l).length ≤ l.length := by
  unfold wordOf restOf
  refine ⟨(List.takeWhile_sublist _).length_le, ?_⟩
  have := (List.dropWhile_sublist (l := l) (· != 32)).length_le
  simp only [List.length_drop]; omega
theorem restN_len (l : List UInt8) (k : Nat) : (restN l k).length ≤ l.length := by
  induction k with
  | zero => exact Nat.le_refl _
  | succ k ih => exact Nat.le_trans (rest_small _).2 ih

set_option maxHeartbeats 2000000 in
set_option maxRecDepth 100000 in
theorem c46w (s : ByteArray) (w : World) (hs : s.size ≤ 1048700) :
    Calls Tryz.prog 46 #[.string s, .int .i64 3] w fun e w' => (∃ g cp, e = .returned (.tuple #[.slice (some ⟨g, 0, none⟩) 3 cp, .string (ofL (restN s.data.toList 3))]) ∧ w.heap.size ≤ g ∧ LinesAt w' g (wordsN s.data.toList 3)) ∧ Below w.heap.size w w' := by
  obtain ⟨i0, hi, hz0, hz1, hz2⟩ := info_parts info9
  have hlen : s.data.toList.length = s.size := by simp
  go_enter Tryz.func46, Tryz.ntmps46
  go_wp2_with fail
  go_loopw [0, 6, 7] (fun sv v i wr => ∃ (m : Nat) (t : ByteArray) (ss : List (List UInt8)), m ≤ 3 ∧ i = .int .i64 m ∧ sv = .string t ∧ wr.ownsRow w.heap.size 9 1 v m (strL ss) ∧ Hid (t = ofL (restN s.data.toList m) ∧ ss = wordsN s.data.toList m) ∧ Below w.heap.size w wr ∧ w.heap.size + 1 ≤ wr.heap.size) (fun _ _ i _ => 3 - (intOf i).toNat)
  case atStart => exact ⟨0, s, [], Nat.zero_le _, rfl, rfl, World.ownsRow_lit _ #[] 0 (Nat.le_refl _) (Nat.zero_le _) rfl, ⟨rfl, rfl⟩, (Below.refl _ _).alloc (Nat.le_refl _) _, by simp⟩
  case round =>
    obtain ⟨m, t, ss, hm, rfl, rfl, hown, hrel, hb, hz⟩ := hrel
    by_cases hlt : m < 3
    · obtain ⟨hT, rfl⟩ := hrel.out
      have hts : t.size ≤ 1048700 := by rw [hT, ofL_size]; have := restN_len s.data.toList m; omega
      have hTl : t.data.toList = restN s.data.toList m := by rw [hT]; simp [ofL]
      have HTL : Hid (t.data.toList = restN s.data.toList m) := hTl
      have htlen : t.data.toList.length = t.size := by simp
      clear hT hTl
      clear hrel
      go_wp2_with fail
      go_loop [8] (fun n => ∃ k : Nat, k ≤ t.size ∧ n = .int .i64 k ∧ Hid ((t.data.toList.take k).all (· != 32) = true)) (fun n => t.size - (intOf n).toNat)
      case atStart => exact ⟨0, Nat.zero_le _, rfl, rfl⟩
      case round =>
        obtain ⟨k, hk, rfl, ha⟩ := hrel
        by_cases hkt : k < t.size
        · have hkt' : (k : Int) < (t.size : Int) := by omega
          by_cases h32 : t[k] = 32
          · have e1 : ((t[k].toNat : Int) != 32) = false := by rw [h32]; rfl
            obtain ⟨hw1, hw2⟩ := word_at (l := t.data.toList) ha.out (by omega) (.inr (by simp [hkt]; exact h32))
            have HW : Hid (t.extract 0 k = ofL (wordOf t.data.toList)) := ext_ofL (by rw [ext_listF, hw1]; rfl)
            have HR : Hid (t.extract (k + 1) t.size = ofL (restOf t.data.toList)) := ext_ofL (by rw [ext_listF, hw2, List.take_of_length_le (by omega)])
            clear h32 hw1 hw2
            go_wp2_with (at_builtin; refine wpList_append_own _ rfl _ _ 80 rfl w.heap.size 9 i0 (.string ⟨#[]⟩) 1 16 Tryz.underlying80 hi hz0 hz1 hz2 rfl (by decide) _ _ _ rfl (hown.alloc _) ⟨wr.heap.size, 0, none⟩ 1 1 [_] rfl rfl (cell_one_new _ _ _) (by intro u hu; simp at hu; subst hu; rfl) (by unfold maxLen; omega) (by omega) (by simp; omega) ?_; intro v' w2 hown' hgrow _)
            go_roundw
            case rel =>
              have hB2 : Below w.heap.size w w2 := (hb.alloc hb.size _).grown hgrow (by simp; omega) (fun j hj => (hown.lt j hj).1)
              refine ⟨m + 1, _, wordsN s.data.toList (m + 1), by omega, by go_num, rfl, ?_, ⟨by rw [HR.out, HTL.out]; rfl, rfl⟩, hB2, by have := hgrow.size; simp at this; omega⟩
              rw [wordsN_succ, strL_snoc, ← HTL.out, ← HW.out]
              exact hown'
            case measure => simp [intOf]; omega
          · have e1 : ((t[k].toNat : Int) != 32) = true := by
              simp only [bne_iff_ne]
              intro e
              exact h32 (UInt8.toNat_inj.1 (by have : t[k].toNat = 32 := by omega
                                               rw [this]; rfl))
            have HA : Hid ((t.data.toList.take (k + 1)).all (· != 32) = true) := by
              rw [take_snoc t k hkt, List.all_append, ha.out]
              simp [Hid, h32]
            clear h32
            go_wp2
            go_round
            case rel => exact ⟨k + 1, by omega, by go_num, HA⟩
            case measure => simp [intOf]; omega
        · obtain ⟨hw1, hw2⟩ := word_at (l := t.data.toList) ha.out (by omega) (.inl (by omega))
          have HW : Hid (t.extract 0 k = ofL (wordOf t.data.toList)) := ext_ofL (by rw [ext_listF, hw1]; rfl)
          have HR : Hid (t.extract k t.size = ofL (restOf t.data.toList)) := ext_ofL (by rw [ext_listF, hw2, List.take_of_length_le (by omega), List.drop_of_length_le (by omega), List.drop_of_length_le (by omega)])
          clear hw1 hw2
          go_wp2_with (at_builtin; refine wpList_append_own _ rfl _ _ 80 rfl w.heap.size 9 i0 (.string ⟨#[]⟩) 1 16 Tryz.underlying80 hi hz0 hz1 hz2 rfl (by decide) _ _ _ rfl (hown.alloc _) ⟨wr.heap.size, 0, none⟩ 1 1 [_] rfl rfl (cell_one_new _ _ _) (by intro u hu; simp at hu; subst hu; rfl) (by unfold maxLen; omega) (by omega) (by simp; omega) ?_; intro v' w2 hown' hgrow _)
          go_roundw
          case rel =>
            have hB2 : Below w.heap.size w w2 := (hb.alloc hb.size _).grown hgrow (by simp; omega) (fun j hj => (hown.lt j hj).1)
            refine ⟨m + 1, _, wordsN s.data.toList (m + 1), by omega, by go_num, rfl, ?_, ⟨by rw [HR.out, HTL.out]; rfl, rfl⟩, hB2, by have := hgrow.size; simp at this; omega⟩
            rw [wordsN_succ, strL_snoc, ← HTL.out, ← HW.out]
            exact hown'
          case measure => simp [intOf]; omega
    · obtain rfl : m = 3 := by omega
      obtain ⟨rfl, rfl⟩ := hrel.out
      clear hrel
      obtain ⟨g, cp, hvv⟩ := own_formF hown (by omega)
      subst hvv
      go_wp2
      go_ret2
      exact ⟨⟨g, cp, rfl, (hown.lt g rfl).1, lines_of_owns hown rfl⟩, hb⟩
end Go.Proofs.YtdcgjdgpiogdaaaGreatDoor
namespace Go.Proofs.YtdcgjdgpiogdaaaGreatDoor
open Go.RowKit

theorem plain_iff (c : UInt8) : plainB c = true ↔ 32 ≤ c.toNat ∧ c.toNat ≤ 126 ∧ c.toNat ≠ 34 ∧ c.toNat ≠ 92 := by
  unfold plainB
  simp only [Bool.and_eq_true, decide_eq_true_eq, Bool.not_eq_true', beq_eq_false_iff_ne]
  omega
theorem hexL_inj : ∀ a b : Fin 16, hexL.getD a.val 0 = hexL.getD b.val 0 → a = b := by decide
theorem hexL_eq {a b : Nat} (ha : a < 16) (hb : b < 16) (h : hexL.getD a 0 = hexL.getD b 0) : a = b := by
  have := hexL_inj ⟨a, ha⟩ ⟨b, hb⟩ h
  exact Fin.mk.inj this
theorem u8_lt (c : UInt8) : c.toNat < 256 := c.toNat_lt
theorem qb_plain {c : UInt8} (h : plainB c = true) : qb c = [c] := by unfold qb; rw [if_pos h]
theorem qb_not {c : UInt8} (h : plainB c = false) : qb c = [92, hexL.getD (c.toNat / 16) 0, hexL.getD (c.toNat % 16) 0] := by unfold qb; rw [if_neg (by simp [h])]
theorem plain_92 : plainB 92 = false := by decide
theorem plain_34 : plainB 34 = false := by decide
theorem qb_ne (c : UInt8) : qb c ≠ [] := by
  cases h : plainB c
  · rw [qb_not h]; simp
  · rw [qb_plain h]; simp
/-- No two bytes' forms begin alike. -/
theorem qb_pre {c d : UInt8} {r q : List UInt8} (h : qb c ++ r = qb d ++ q) : c = d ∧ r = q := by
  cases hc : plainB c <;> cases hd : plainB d
  · rw [qb_not hc, qb_not hd] at h
    simp only [List.cons_append, List.nil_append, List.cons.injEq, true_and] at h
    obtain ⟨h1, h2, h3⟩ := h
    have lc := u8_lt c
    have ld := u8_lt d
    have e1 := hexL_eq (by omega) (by omega) h1
    have e2 := hexL_eq (by omega) (by omega) h2
    exact ⟨UInt8.toNat_inj.1 (by omega), h3⟩
  · rw [qb_not hc, qb_plain hd] at h
    simp only [List.cons_append, List.nil_append, List.cons.injEq] at h
    rw [← h.1, plain_92] at hd; cases hd
  · rw [qb_plain hc, qb_not hd] at h
    simp only [List.cons_append, List.nil_append, List.cons.injEq] at h
    rw [h.1, plain_92] at hc; cases hc
  · rw [qb_plain hc, qb_plain hd] at h
    simpa using h
theorem qb_34 {c : UInt8} {r q : List UInt8} (h : qb c ++ r = 34 :: q) : False := by
  cases hc : plainB c
  · rw [qb_not hc] at h; simp at h
  · rw [qb_plain hc] at h
    simp only [List.cons_append, List.nil_append, List.cons.injEq] at h
    rw [h.1, plain_34] at hc; cases hc
theorem flat_pre {t l R : List UInt8} (h : t.flatMap qb ++ R = l.flatMap qb) : ∃ r, R = r.flatMap qb ∧ l = t ++ r := by
  induction t generalizing l with
  | nil => exact ⟨l, by simpa using h, rfl⟩
  | cons c t ih =>
    cases l with
    | nil =>
      have := qb_ne c
      simp at h
      exact absurd h.1 this
    | cons d l =>
      simp only [List.flatMap_cons, List.append_assoc] at h
      obtain ⟨rfl, h2⟩ := qb_pre h
      obtain ⟨r, hr, hl⟩ := ih h2
      exact ⟨r, hr, by rw [hl]; rfl⟩
theorem flat_inj {t l : List UInt8} (h : t.flatMap qb = l.flatMap qb) : t = l := by
  obtain ⟨r, hr, hl⟩ := flat_pre (t := t) (l := l) (R := []) (by simpa using h)
  cases r with
  | nil => simpa using hl.symm
  | cons c r =>
    have := qb_ne c
    simp at hr
    exact absurd hr.1 this
theorem quoteL_inj {t l : List UInt8} (h : quoteL t = quoteL l) : t = l := by
  unfold quoteL at h
  simp only [List.cons.injEq, true_and, List.append_cancel_right_eq] at h
  exact flat_inj h
theorem flat_ge (l : List UInt8) : l.length ≤ (l.flatMap qb).length := by
  induction l with
  | nil => simp
  | cons c l ih =>
    have : 1 ≤ (qb c).length := List.length_pos_iff.2 (qb_ne c)
    simp only [List.flatMap_cons, List.length_append, List.length_cons]; omega
theorem quote_ge (l : List UInt8) : l.length + 2 ≤ (quoteL l).length := by
  have := flat_ge l
  unfold quoteL; simp only [List.length_cons, List.length_append, List.length_nil]; omega
/-- The inner part of a text in quotes. -/
theorem quote_inner {q l : List UInt8} (h : q = quoteL l) : q = 34 :: (l.flatMap qb ++ [34]) := h
theorem hexL_no10 : ∀ a : Fin 16, hexL.getD a.val 0 ≠ 10 ∧ hexL.getD a.val 0 ≠ 32 := by decide
theorem qb_no10 (c : UInt8) : (10 : UInt8) ∉ qb c := by
  cases h : plainB c
  · rw [qb_not h]
    have lc := u8_lt c
    have h1 := (hexL_no10 ⟨c.toNat / 16, by omega⟩).1
    have h2 := (hexL_no10 ⟨c.toNat % 16, by omega⟩).1
    simp only [List.mem_cons, List.not_mem_nil, or_false, not_or]
    exact ⟨by decide, fun e => h1 e.symm, fun e => h2 e.symm⟩
  · rw [qb_plain h]
    have := (plain_iff c).1 h
    simp only [List.mem_cons, List.not_mem_nil, or_false]
    intro e; rw [← e] at this; simp at this
theorem quote_no10 (l : List UInt8) : (10 : UInt8) ∉ quoteL l := by
  unfold quoteL
  simp only [List.mem_cons, List.mem_append, List.mem_flatMap, List.not_mem_nil, or_false, not_or]
  refine ⟨by decide, fun ⟨c, _, h⟩ => qb_no10 c h, by decide⟩
end Go.Proofs.YtdcgjdgpiogdaaaGreatDoor
