import Derived.Test.YtpjpckmfehfniaaGreatDoorZC04
import Derived.Test.YtpjpckmfehfniaaGreatDoorZC03
import Derived.Lib.IndexBytes
import Derived.Lib.IndexLaws
import Derived.Lib.Split
namespace Go.Proofs.YtpjpckmfehfniaaGreatDoor
open Go.RowKit
def cst (b : UInt8) (p : List (List UInt8) × List UInt8) (c : UInt8) : List (List UInt8) × List UInt8 := if c = b then (p.1 ++ [p.2], []) else (p.1, p.2 ++ [c])
def cstate (b : UInt8) (l : List UInt8) : List (List UInt8) × List UInt8 := l.foldl (cst b) ([], [])
def cutS (b : UInt8) (l : List UInt8) : List (List UInt8) := (cstate b l).1 ++ [(cstate b l).2]
theorem cstate_snoc (b : UInt8) (l : List UInt8) (c : UInt8) : cstate b (l ++ [c]) = cst b (cstate b l) c := by simp [cstate]
theorem cstate_len (b : UInt8) (l : List UInt8) (p : List (List UInt8) × List UInt8) : (l.foldl (cst b) p).1.length ≤ p.1.length + l.length := by
 induction l generalizing p with
 | nil => simp
 | cons c l ih =>
   have := ih (cst b p c)
   have h2 : (cst b p c).1.length ≤ p.1.length + 1 := by unfold cst; split <;> simp
   simp only [List.foldl_cons, List.length_cons]; omega
theorem cstate_le (b : UInt8) (l : List UInt8) : (cstate b l).1.length ≤ l.length := by have := cstate_len b l ([], []); simpa [cstate] using this
def strL (ss : List (List UInt8)) : List Value := ss.map fun l => .string (ofL l)
theorem strL_snoc (ss : List (List UInt8)) (l : List UInt8) : strL (ss ++ [l]) = strL ss ++ [.string (ofL l)] := by simp [strL]
def LinesAt (w : World) (g : Nat) (ss : List (List UInt8)) : Prop := g < w.heap.size ∧ ∀ i, i < ss.length → w.cell? ⟨g, i, none⟩ = some (.string (ofL (ss.getD i [])))
theorem lines_below {w w' : World} {g : Nat} {ss : List (List UInt8)} (h : LinesAt w g ss) (hb : Below w.heap.size w w') : LinesAt w' g ss :=
 ⟨Nat.lt_of_lt_of_le h.1 hb.size, fun i hi => by rw [hb.cell (by exact h.1)]; exact h.2 i hi⟩
theorem lines_of_owns {w : World} {base g k cp : Nat} {ss : List (List UInt8)} (h : w.ownsRow base 9 1 (.slice (some ⟨g, 0, none⟩) k cp) k (strL ss)) (hl : ss.length = k) : LinesAt w g ss := by
 refine ⟨(h.lt g rfl).2, fun i hi => ?_⟩
 rw [h.cellAt i (by omega)]
 simp [strL, hi]
theorem own_formF {w : World} {base : Nat} {e : TypeId} {size : Nat} {v : Value} {n : Nat} {xs : List Value} (h : w.ownsRow base e size v n xs) (hn : 0 < n) : ∃ g cp, v = .slice (some ⟨g, 0, none⟩) n cp := by
 rcases h.2 with ⟨_, h0⟩ | ⟨g, cap, cur, hv, _⟩
 · omega
 · exact ⟨g, cap, hv⟩
theorem info9 : (Tryz.prog.info? 9).map (fun i => (i.zero, i.size, i.bytes)) = some (some (.string ⟨#[]⟩), 1, 16) := by kernel_rfl
theorem ext_ofL {s : ByteArray} {l : List UInt8} (h : s.data.toList = l) : s = ofL l := by
 apply ByteArray.ext
 unfold ofL
 rw [← h]
theorem ext_listF (s : ByteArray) (a b : Nat) : (s.extract a b).data.toList = (s.data.toList.take b).drop a := by
 rw [ByteArray.data_extract, Array.toList_extract, List.extract_eq_take_drop, List.drop_take]
set_option maxHeartbeats 2000000 in
set_option maxRecDepth 100000 in
theorem c79 (s : ByteArray) (b : UInt8) (w : World) (hs : s.size ≤ 1048700) :
 Calls Tryz.prog 79 #[.string s, .int .u8 b.toNat] w fun e w' => (∃ g cp, e = .returned (.slice (some ⟨g, 0, none⟩) (cutS b s.data.toList).length cp) ∧ w.heap.size ≤ g ∧ LinesAt w' g (cutS b s.data.toList)) ∧ Below w.heap.size w w' := by
 obtain ⟨i0, hi, hz0, hz1, hz2⟩ := info_parts info9
 have hlen : s.data.toList.length = s.size := by simp
 go_enter Tryz.func79, Tryz.ntmps79
 go_wp2_with fail
 go_loopw [5, 6, 7] (fun v fr i wr => ∃ (k f : Nat), k ≤ s.size ∧ f ≤ k ∧ i = .int .i64 k ∧ fr = .int .i64 f ∧ wr.ownsRow w.heap.size 9 1 v (cstate b (s.data.toList.take k)).1.length (strL (cstate b (s.data.toList.take k)).1) ∧ Hid ((s.data.toList.take k).drop f = (cstate b (s.data.toList.take k)).2) ∧ Below w.heap.size w wr ∧ w.heap.size + 1 ≤ wr.heap.size) (fun _ _ i _ => s.size - (intOf i).toNat)
 case atStart => exact ⟨0, 0, Nat.zero_le _, Nat.le_refl _, rfl, rfl, World.ownsRow_lit _ #[] 0 (Nat.le_refl _) (Nat.zero_le _) rfl, rfl, (Below.refl _ _).alloc (Nat.le_refl _) _, by simp⟩
 case round =>
  obtain ⟨k, f, hk, hf, rfl, rfl, hown, hcur, hb, hz⟩ := hrel
  have hL : (cstate b (s.data.toList.take k)).1.length ≤ k := by
   have := cstate_le b (s.data.toList.take k)
   rw [List.length_take] at this; omega
  by_cases hlt : k < s.size
  · have HS : Hid (cstate b (s.data.toList.take (k + 1)) = cst b (cstate b (s.data.toList.take k)) s[k]) := by rw [take_snoc s k hlt, cstate_snoc]; rfl
    have HE : Hid (s.extract f k = ofL (cstate b (s.data.toList.take k)).2) := ext_ofL (by rw [ext_listF]; exact hcur.out)
    by_cases hc : s[k] = b
    · have e1 : ((s[k].toNat : Int) == (b.toNat : Int)) = true := by rw [hc]; simp
      have HC : Hid (cst b (cstate b (s.data.toList.take k)) s[k] = ((cstate b (s.data.toList.take k)).1 ++ [(cstate b (s.data.toList.take k)).2], [])) := by unfold cst; rw [if_pos hc]; rfl
      have HD : Hid ((s.data.toList.take (k + 1)).drop (k + 1) = []) := List.drop_of_length_le (by simp; omega)
      clear hc hcur
      generalize cstate b (s.data.toList.take k) = st at *
      go_wp2_with (at_builtin; refine wpList_append_own _ rfl _ _ 124 rfl w.heap.size 9 i0 (.string ⟨#[]⟩) 1 16 Tryz.underlying124 hi hz0 hz1 hz2 rfl (by decide) _ _ _ rfl (hown.alloc _) ⟨wr.heap.size, 0, none⟩ 1 1 [_] rfl rfl (cell_one_new _ _ _) (by intro u hu; simp at hu; subst hu; rfl) (by unfold maxLen; omega) (by omega) (by simp; omega) ?_; intro v' w2 hown' hgrow _)
      go_roundw
      case rel =>
       have hB2 : Below w.heap.size w w2 := (hb.alloc hb.size _).grown hgrow (by simp; omega) (fun j hj => (hown.lt j hj).1)
       refine ⟨k + 1, k + 1, by omega, Nat.le_refl _, by go_num, by go_num, ?_, ?_, hB2, by have := hgrow.size; simp at this; omega⟩
       · rw [HS.out, HC.out, List.length_append, strL_snoc, ← HE.out]
         exact hown'
       · rw [HS.out, HC.out]; exact HD.out
      case measure => simp [intOf]; omega
    · have e1 : ((s[k].toNat : Int) == (b.toNat : Int)) = false := by
       simp only [beq_eq_false_iff_ne]
       intro e
       exact hc (UInt8.toNat_inj.1 (by omega))
      have HC : Hid (cst b (cstate b (s.data.toList.take k)) s[k] = ((cstate b (s.data.toList.take k)).1, (cstate b (s.data.toList.take k)).2 ++ [s[k]])) := by unfold cst; rw [if_neg hc]; rfl
      have HD : Hid ((s.data.toList.take (k + 1)).drop f = (s.data.toList.take k).drop f ++ [s[k]]) := by rw [take_snoc s k hlt, List.drop_append_of_le_length (by simp; omega)]; rfl
      clear hc
      generalize cstate b (s.data.toList.take k) = st at *
      go_wp2
      go_roundw
      case rel =>
       refine ⟨k + 1, f, by omega, by omega, by go_num, rfl, ?_, ?_, hb, hz⟩
       · rw [HS.out, HC.out]; exact hown
       · rw [HS.out, HC.out, HD.out, hcur.out]; rfl
      case measure => simp [intOf]; omega
  · have HK : Hid (s.data.toList.take k = s.data.toList) := List.take_of_length_le (by omega)
    have HE : Hid (s.extract f s.size = ofL (cstate b (s.data.toList.take k)).2) := ext_ofL (by rw [ext_listF, ← show k = s.size by omega]; exact hcur.out)
    have HCU : Hid (cutS b s.data.toList = (cstate b (s.data.toList.take k)).1 ++ [(cstate b (s.data.toList.take k)).2]) := by rw [HK.out]; rfl
    clear hcur
    generalize cstate b (s.data.toList.take k) = st at *
    go_wp2_with (at_builtin; refine wpList_append_own _ rfl _ _ 124 rfl w.heap.size 9 i0 (.string ⟨#[]⟩) 1 16 Tryz.underlying124 hi hz0 hz1 hz2 rfl (by decide) _ _ _ rfl (hown.alloc _) ⟨wr.heap.size, 0, none⟩ 1 1 [_] rfl rfl (cell_one_new _ _ _) (by intro u hu; simp at hu; subst hu; rfl) (by unfold maxLen; omega) (by omega) (by simp; omega) ?_; intro v' w2 hown' hgrow _; obtain ⟨g, cp, hvv⟩ := own_formF hown' (by omega); subst hvv)
    go_ret
    have hB2 : Below w.heap.size w w2 := (hb.alloc hb.size _).grown hgrow (by simp; omega) (fun j hj => (hown.lt j hj).1)
    have ho2 : w2.ownsRow w.heap.size 9 1 (.slice (some ⟨g, 0, none⟩) (st.1.length + 1) cp) (st.1.length + 1) (strL (cutS b s.data.toList)) := by
     rw [HCU.out, strL_snoc, ← HE.out]; exact hown'
    have hlc : (cutS b s.data.toList).length = st.1.length + 1 := by rw [HCU.out]; simp
    refine ⟨⟨g, cp, by rw [hlc]; rfl, (ho2.lt g rfl).1, lines_of_owns ho2 hlc⟩, hB2⟩
def wordOf (l : List UInt8) : List UInt8 := l.takeWhile (· != 32)
def restOf (l : List UInt8) : List UInt8 := (l.dropWhile (· != 32)).drop 1
theorem word_at {l : List UInt8} {k : Nat} (ha : (l.take k).all (· != 32) = true) (_hk : k ≤ l.length) (he : k = l.length ∨ l.getD k 0 = 32) : wordOf l = l.take k ∧ restOf l = l.drop (k + 1) := by
 have h : l.takeWhile (· != 32) = l.take k ∧ l.dropWhile (· != 32) = l.drop k := by
  rcases Nat.lt_or_ge k l.length with hlt | hge
  · have hx : l[k] = 32 := by
     rcases he with he | he
     · omega
     · simpa [hlt] using he
    have hsplit : l = l.take k ++ l[k] :: l.drop (k + 1) := by rw [← List.drop_eq_getElem_cons hlt, List.take_append_drop]
    have hall : ∀ a ∈ l.take k, (a != 32) = true := fun a h => List.all_eq_true.1 ha a h
    constructor
    · conv => lhs; rw [hsplit]
      rw [List.takeWhile_append_of_pos hall, hx]
      simp
    · conv => lhs; rw [hsplit]
      rw [List.dropWhile_append_of_pos hall, hx]
      rw [List.drop_eq_getElem_cons hlt, hx]
      simp
  · rw [List.take_of_length_le hge] at ha
    rw [List.take_of_length_le hge, List.drop_of_length_le hge]
    have hall : ∀ a ∈ l, (a != 32) = true := fun a h => List.all_eq_true.1 ha a h
    have := List.takeWhile_append_of_pos (l₂ := []) hall
    have h2 := List.dropWhile_append_of_pos (l₂ := []) hall
    simp only [List.append_nil, List.takeWhile_nil, List.dropWhile_nil] at this h2
    exact ⟨this, h2⟩
 refine ⟨h.1, ?_⟩
 unfold restOf
 rw [h.2, List.drop_drop]
set_option maxHeartbeats 2000000 in
set_option maxRecDepth 100000 in
theorem c80 (s : ByteArray) (w : World) (hs : s.size ≤ 1048700) :
 Calls Tryz.prog 80 #[.string s, .int .i64 1] w fun e w' => (∃ g cp, e = .returned (.tuple #[.slice (some ⟨g, 0, none⟩) 1 cp, .string (ofL (restOf s.data.toList))]) ∧ w.heap.size ≤ g ∧ LinesAt w' g [wordOf s.data.toList]) ∧ Below w.heap.size w w' := by
 obtain ⟨i0, hi, hz0, hz1, hz2⟩ := info_parts info9
 have hlen : s.data.toList.length = s.size := by simp
 go_enter Tryz.func80, Tryz.ntmps80
 go_wp2_with fail
 go_loopw [0, 6, 7] (fun sv v i wr => ∃ (m : Nat) (t : ByteArray) (ss : List (List UInt8)), m ≤ 1 ∧ i = .int .i64 m ∧ sv = .string t ∧ wr.ownsRow w.heap.size 9 1 v m (strL ss) ∧ Hid ((m = 0 → t = s ∧ ss = []) ∧ (m = 1 → t = ofL (restOf s.data.toList) ∧ ss = [wordOf s.data.toList])) ∧ Below w.heap.size w wr ∧ w.heap.size + 1 ≤ wr.heap.size) (fun _ _ i _ => 1 - (intOf i).toNat)
 case atStart => exact ⟨0, s, [], Nat.zero_le _, rfl, rfl, World.ownsRow_lit _ #[] 0 (Nat.le_refl _) (Nat.zero_le _) rfl, ⟨fun _ => ⟨rfl, rfl⟩, fun h => by omega⟩, (Below.refl _ _).alloc (Nat.le_refl _) _, by simp⟩
 case round =>
  obtain ⟨m, t, ss, hm, rfl, rfl, hown, hrel, hb, hz⟩ := hrel
  by_cases hlt : m < 1
  · obtain rfl : m = 0 := by omega
    obtain ⟨rfl, rfl⟩ := hrel.out.1 rfl
    clear hrel
    go_wp2_with fail
    go_loop [8] (fun n => ∃ k : Nat, k ≤ t.size ∧ n = .int .i64 k ∧ Hid ((t.data.toList.take k).all (· != 32) = true)) (fun n => t.size - (intOf n).toNat)
    case atStart => exact ⟨0, Nat.zero_le _, rfl, rfl⟩
    case round =>
     obtain ⟨k, hk, rfl, ha⟩ := hrel
     by_cases hkt : k < t.size
     · have hkt' : (k : Int) < (t.size : Int) := by omega
       by_cases h32 : t[k] = 32
       · have e1 : ((t[k].toNat : Int) != 32) = false := by rw [h32]; rfl
         obtain ⟨hw1, hw2⟩ := word_at (l := t.data.toList) ha.out (by omega) (.inr (by simp [hkt]; exact h32))
         have HW : Hid (t.extract 0 k = ofL (wordOf t.data.toList)) := ext_ofL (by rw [ext_listF, hw1]; rfl)
         have HR : Hid (t.extract (k + 1) t.size = ofL (restOf t.data.toList)) := ext_ofL (by rw [ext_listF, hw2, List.take_of_length_le (by omega)])
         clear h32 hw1 hw2
         go_wp2_with (at_builtin; refine wpList_append_own _ rfl _ _ 124 rfl w.heap.size 9 i0 (.string ⟨#[]⟩) 1 16 Tryz.underlying124 hi hz0 hz1 hz2 rfl (by decide) _ _ _ rfl (hown.alloc _) ⟨wr.heap.size, 0, none⟩ 1 1 [_] rfl rfl (cell_one_new _ _ _) (by intro u hu; simp at hu; subst hu; rfl) (by unfold maxLen; omega) (by omega) (by simp; omega) ?_; intro v' w2 hown' hgrow _)
         go_roundw
         case rel =>
          have hB2 : Below w.heap.size w w2 := (hb.alloc hb.size _).grown hgrow (by simp; omega) (fun j hj => (hown.lt j hj).1)
          refine ⟨1, _, [wordOf t.data.toList], Nat.le_refl _, by go_num, rfl, ?_, ⟨fun h => by omega, fun _ => ⟨HR.out, rfl⟩⟩, hB2, by have := hgrow.size; simp at this; omega⟩
          show w2.ownsRow w.heap.size 9 1 _ 1 [.string (ofL (wordOf t.data.toList))]
          rw [← HW.out]
          exact hown'
         case measure => simp [intOf]
       · have e1 : ((t[k].toNat : Int) != 32) = true := by
          simp only [bne_iff_ne]
          intro e
          exact h32 (UInt8.toNat_inj.1 (by have : t[k].toNat = 32 := by omega
                                           rw [this]; rfl))
         have HA : Hid ((t.data.toList.take (k + 1)).all (· != 32) = true) := by
          rw [take_snoc t k hkt, List.all_append, ha.out]
          simp [Hid, h32]
         clear h32
         go_wp2
         go_round
         case rel => exact ⟨k + 1, by omega, by go_num, HA⟩
         case measure => simp [intOf]; omega
     · obtain ⟨hw1, hw2⟩ := word_at (l := t.data.toList) ha.out (by omega) (.inl (by omega))
       have HW : Hid (t.extract 0 k = ofL (wordOf t.data.toList)) := ext_ofL (by rw [ext_listF, hw1]; rfl)
       have HR : Hid (t.extract k t.size = ofL (restOf t.data.toList)) := ext_ofL (by rw [ext_listF, hw2, List.take_of_length_le (by omega), List.drop_of_length_le (by omega), List.drop_of_length_le (by omega)])
       clear hw1 hw2
       go_wp2_with (at_builtin; refine wpList_append_own _ rfl _ _ 124 rfl w.heap.size 9 i0 (.string ⟨#[]⟩) 1 16 Tryz.underlying124 hi hz0 hz1 hz2 rfl (by decide) _ _ _ rfl (hown.alloc _) ⟨wr.heap.size, 0, none⟩ 1 1 [_] rfl rfl (cell_one_new _ _ _) (by intro u hu; simp at hu; subst hu; rfl) (by unfold maxLen; omega) (by omega) (by simp; omega) ?_; intro v' w2 hown' hgrow _)
       go_roundw
       case rel =>
        have hB2 : Below w.heap.size w w2 := (hb.alloc hb.size _).grown hgrow (by simp; omega) (fun j hj => (hown.lt j hj).1)
        refine ⟨1, _, [wordOf t.data.toList], Nat.le_refl _, by go_num, rfl, ?_, ⟨fun h => by omega, fun _ => ⟨HR.out, rfl⟩⟩, hB2, by have := hgrow.size; simp at this; omega⟩
        show w2.ownsRow w.heap.size 9 1 _ 1 [.string (ofL (wordOf t.data.toList))]
        rw [← HW.out]
        exact hown'
       case measure => simp [intOf]
  · obtain rfl : m = 1 := by omega
    obtain ⟨rfl, rfl⟩ := hrel.out.2 rfl
    clear hrel
    obtain ⟨g, cp, hvv⟩ := own_formF hown (by omega)
    subst hvv
    go_wp2
    go_ret2
    exact ⟨⟨g, cp, rfl, (hown.lt g rfl).1, lines_of_owns hown rfl⟩, hb⟩
end Go.Proofs.YtpjpckmfehfniaaGreatDoor
namespace Go.Proofs.YtpjpckmfehfniaaGreatDoor
open Go.RowKit
def body (x : I3) : List UInt8 := word x.op ++ toL x ++ txL x
theorem line_body (x : I3) : lineL x = body x ++ [10] := rfl
theorem word_none {l : List UInt8} (h : (32 : UInt8) ∉ l) : wordOf l = l ∧ restOf l = [] := by
 have := word_at (l := l) (k := l.length) (by rw [List.take_length, List.all_eq_true]; intro a ha; simp only [bne_iff_ne]; intro e; exact h (e ▸ ha)) (Nat.le_refl _) (.inl rfl)
 rw [List.take_length, List.drop_of_length_le (by omega)] at this
 exact this
theorem word_split {a r : List UInt8} (h : (32 : UInt8) ∉ a) : wordOf (a ++ 32 :: r) = a ∧ restOf (a ++ 32 :: r) = r := by
 have := word_at (l := a ++ 32 :: r) (k := a.length) (by rw [List.take_left, List.all_eq_true]; intro x ha; simp only [bne_iff_ne]; intro e; exact h (e ▸ ha)) (by simp) (.inr (by simp))
 rw [List.take_left] at this
 refine ⟨this.1, this.2.trans ?_⟩
 rw [← List.drop_drop, List.drop_left]
 rfl
theorem word_parts {l : List UInt8} (h : (32 : UInt8) ∈ l) : l = wordOf l ++ 32 :: restOf l ∧ (32 : UInt8) ∉ wordOf l := by
 obtain ⟨a, r, rfl, ha⟩ := List.eq_append_cons_of_mem h
 obtain ⟨h1, h2⟩ := word_split (r := r) ha
 rw [h1, h2]
 exact ⟨rfl, ha⟩
theorem idx_one (l : List UInt8) : (Lib.index l [32] = -1 ∧ (32 : UInt8) ∉ l) ∨ (∃ i : Nat, Lib.index l [32] = i ∧ (32 : UInt8) ∈ l ∧ l.take i = wordOf l ∧ l.drop (i + 1) = restOf l) := by
 rw [Lib.index_one]
 have hge := Lib.indexByte_ge l 32
 by_cases h : Lib.indexByte l 32 = -1
 · refine .inl ⟨h, fun hm => ?_⟩
   obtain ⟨k, hk, e⟩ := List.getElem_of_mem hm
   exact Lib.indexByte_none h k (by rw [List.getElem?_eq_getElem hk, e])
 · obtain ⟨o, ho⟩ : ∃ o : Nat, Lib.indexByte l 32 = o := ⟨(Lib.indexByte l 32).toNat, by omega⟩
   obtain ⟨h1, h2⟩ := Lib.indexByte_some ho
   have hl : o < l.length := by
    rcases Nat.lt_or_ge o l.length with h | h
    · exact h
    · rw [List.getElem?_eq_none h] at h1; cases h1
   have hm : (32 : UInt8) ∈ l := List.mem_of_getElem? h1
   have := word_at (l := l) (k := o) (by
    rw [List.all_eq_true]
    intro x hx
    simp only [bne_iff_ne]
    rintro rfl
    obtain ⟨k, hk, e⟩ := List.getElem_of_mem hx
    rw [List.length_take] at hk
    rw [List.getElem_take] at e
    exact h2 k (by omega) (by rw [List.getElem?_eq_getElem (by omega), e])) (by omega) (.inr (by simp [List.getD, h1]))
   exact .inr ⟨o, ho, hm, this.1.symm, this.2.symm⟩
theorem cut_32 (l : List UInt8) : (Lib.cut l [32]).1 = wordOf l := by
 unfold Lib.cut
 rcases idx_one l with ⟨h, hn⟩ | ⟨i, h, _, h1, _⟩
 · rw [h, if_neg (by omega), (word_none hn).1]
 · rw [h, if_pos (by omega)]; exact h1
def parts1 (l : List UInt8) (n : Nat) : List (List UInt8) := Lib.splitK [32] 0 n l
theorem parts_zero (l : List UInt8) : parts1 l 0 = [l] := rfl
theorem parts_no {l : List UInt8} (n : Nat) (h : (32 : UInt8) ∉ l) : parts1 l n = [l] := by
 cases n with
 | zero => rfl
 | succ n =>
   unfold parts1 Lib.splitK
   rcases idx_one l with ⟨h', _⟩ | ⟨i, _, hm, _⟩
   · rw [h']; rfl
   · exact absurd hm h
theorem parts_yes {l : List UInt8} (n : Nat) (h : (32 : UInt8) ∈ l) : parts1 l (n + 1) = wordOf l :: parts1 (restOf l) n := by
 unfold parts1
 rw [Lib.splitK]
 rcases idx_one l with ⟨_, hn⟩ | ⟨i, hi, _, h1, h2⟩
 · exact absurd h hn
 · rw [hi, if_neg (by simp)]
   simp only [Int.toNat_natCast, Nat.add_zero, List.length_singleton, h1, h2]
theorem words_no32 : ∀ i : Fin 12, (32 : UInt8) ∉ word ((i.val : Nat) : Int) ∧ (10 : UInt8) ∉ word ((i.val : Nat) : Int) := by decide
theorem word_no32 (op : Int) : (32 : UInt8) ∉ word op ∧ (10 : UInt8) ∉ word op := by
 by_cases h : 1 ≤ op ∧ op ≤ 11
 · obtain ⟨n, rfl⟩ := Int.eq_ofNat_of_zero_le (show 0 ≤ op by omega)
   exact words_no32 ⟨n, by omega⟩
 · rw [word_out op h]; simp
theorem words_inj : ∀ i j : Fin 12, 1 ≤ i.val → 1 ≤ j.val → word ((i.val : Nat) : Int) = word ((j.val : Nat) : Int) → i = j := by decide
theorem word_inj {a b : Int} (ha : 1 ≤ a ∧ a ≤ 11) (hb : 1 ≤ b ∧ b ≤ 11) (h : word a = word b) : a = b := by
 obtain ⟨n, rfl⟩ := Int.eq_ofNat_of_zero_le (show 0 ≤ a by omega)
 obtain ⟨m, rfl⟩ := Int.eq_ofNat_of_zero_le (show 0 ≤ b by omega)
 have := words_inj ⟨n, by omega⟩ ⟨m, by omega⟩ (by show 1 ≤ n; omega) (by show 1 ≤ m; omega) h
 have := Fin.mk.inj this
 rw [this]
theorem dec_eq (n : Nat) : dec (n : Int) = Lib.decDigits n := by
 induction n using Nat.strongRecOn with
 | _ n ih =>
   by_cases h : n < 10
   · rw [dec_lt _ (by omega), dec_small n h, show (48 + (n : Int)).toNat = 48 + n by omega]
   · rw [dec_ge _ (by omega), dec_two n h, show (n : Int) / 10 = ((n / 10 : Nat) : Int) by omega, ih (n / 10) (by omega), show (48 + (n : Int) % 10).toNat = 48 + n % 10 by omega]
theorem digs (n : Nat) (h : n < 10) : isDig (UInt8.ofNat (48 + n)) = true ∧ ((UInt8.ofNat (48 + n)).toNat : Int) - 48 = n := by
 have e : (UInt8.ofNat (48 + n)).toNat = 48 + n := by simp; omega
 rw [dig_iff, e]; omega
theorem decD_ok (n : Nat) : (Lib.decDigits n).all isDig = true ∧ val (Lib.decDigits n) = n := by
 induction n using Nat.strongRecOn with
 | _ n ih =>
   by_cases h : n < 10
   · rw [dec_small n h]
     obtain ⟨h1, h2⟩ := digs n h
     refine ⟨by rw [List.all_cons, h1]; rfl, ?_⟩
     have := val_snoc [] (UInt8.ofNat (48 + n))
     rw [List.nil_append] at this
     rw [this, h2]
     simp [val]
   · obtain ⟨h1, h2⟩ := digs (n % 10) (by omega)
     obtain ⟨i1, i2⟩ := ih (n / 10) (by omega)
     rw [dec_two n h, List.all_append, i1, val_snoc, i2, h2]
     refine ⟨by rw [List.all_cons, h1]; rfl, by omega⟩
theorem decD_no32 (n : Nat) : (32 : UInt8) ∉ Lib.decDigits n ∧ (10 : UInt8) ∉ Lib.decDigits n := by
 have := (decD_ok n).1
 rw [List.all_eq_true] at this
 constructor
 · intro h; have := this _ h; revert this; decide
 · intro h; have := this _ h; revert this; decide
theorem num40_dec (n : Nat) (h : n ≤ 40) : num40 (Lib.decDigits n) = true := by
 obtain ⟨h1, h2⟩ := decD_ok n
 refine n40_yes ?_ h1 (by rw [h2]; omega)
 have := (dec_lean (n + 1) (n : Int) (by omega) (by omega)).1
 rwa [dec_eq] at this
theorem num40_of {l : List UInt8} (h : num40 l = true) : 0 ≤ val l ∧ val l ≤ 40 ∧ l = Lib.decDigits (val l).toNat := by
 simp only [num40, Bool.and_eq_true, decide_eq_true_eq] at h
 obtain ⟨⟨h1, h2⟩, h3⟩ := h
 have h0 := val_nonneg l h2
 refine ⟨h0, h3, ?_⟩
 have h4 := (dec_val l h2 h1).1
 have e : val l = ((val l).toNat : Int) := by omega
 rw [← dec_eq, ← e, h4]
theorem n29_dec0 (n : Nat) (h : n ≤ 40) : n29 (Lib.decDigits n) = n := by
 have h40 := num40_dec n h
 obtain ⟨h1, h2⟩ := decD_ok n
 have hl := decLen n (by omega)
 have hne : Lib.decDigits n ≠ [] := by rw [← dec_eq]; exact dec_ne _
 rw [n29_yes ⟨List.length_pos_iff.2 hne, by omega⟩ h1 (by rw [h2, dec_eq]), h2]
def IsBody (l : List UInt8) (x : I3) (ok : Bool) : Prop := (ok = true → okI x = true ∧ l = body x) ∧ (ok = false → ∀ y, okI y = true → l ≠ body y)
theorem body_word {y : I3} (_hy : okI y = true) : wordOf (body y) = word y.op := by
 have hw := (word_no32 y.op).1
 unfold body
 cases hO : usesTo y.op <;> cases hX : usesTx y.op
 · rw [toL, txL, hO, hX]; simp; exact (word_none hw).1
 · rw [toL, txL, hO, hX]; simp; exact (word_split hw).1
 · rw [toL, txL, hO, hX]; simp; exact (word_split hw).1
 · rw [toL, txL, hO, hX]; simp; exact (word_split hw).1
theorem body_op {l : List UInt8} {y : I3} {op : Int} (hy : okI y = true) (h : l = body y) (ho : 1 ≤ op ∧ op ≤ 11) (hw : word op = wordOf l) : y.op = op := by
 rw [h, body_word hy] at hw
 exact (word_inj ho (okI_bad hy).1 hw).symm
theorem noBody_op {l : List UInt8} (h : ∀ op : Nat, 1 ≤ op → op ≤ 11 → word op ≠ wordOf l) (y : I3) (hy : okI y = true) : l ≠ body y := by
 intro e
 obtain ⟨h1, _⟩ := okI_bad hy
 obtain ⟨n, hn⟩ := Int.eq_ofNat_of_zero_le (show 0 ≤ y.op by omega)
 apply h n (by omega) (by omega)
 rw [e, body_word hy, hn]
theorem tx0 : (⟨#[]⟩ : ByteArray).toList.isEmpty = true := by rw [ByteArray.toList_eq]; rfl
theorem isBody_no (l : List UInt8) (x : I3) (h : ∀ y, okI y = true → l ≠ body y) : IsBody l x false := ⟨(fun h => by cases h), fun _ => h⟩
section
variable {l : List UInt8} {op : Nat} (h1 : 1 ≤ op) (h2 : op ≤ 11) (hw : word op = wordOf l)
include h1 h2 hw
theorem isBody_00 (hO : usesTo op = false) (hX : usesTx op = false) : (l = wordOf l → IsBody l ⟨op, ⟨#[]⟩, 0⟩ true) ∧ (l ≠ wordOf l → ∀ y, okI y = true → l ≠ body y) := by
 constructor
 · intro e
   refine ⟨fun _ => ⟨okI_mk ⟨by show (1 : Int) ≤ op; omega, by show (op : Int) ≤ 11; omega⟩ (.inr rfl) (.inr tx0) (Int.le_refl _) (by show (0 : Int) ≤ 40; omega) (by show ((0 : Nat) : Int) ≤ 300; omega), ?_⟩, fun h => by cases h⟩
   unfold body
   rw [toL, txL]
   simp only [hO, hX, Bool.false_eq_true, if_false, List.append_nil]
   rw [hw]; exact e
 · intro hne y hy e
   have ho := body_op hy e ⟨by omega, by omega⟩ hw
   apply hne
   rw [← hw, ← ho]
   rw [e]
   unfold body
   rw [toL, txL, ho, hO, hX]
   simp
theorem no_blank (hu : usesTo op = true ∨ usesTx op = true) (hn : (32 : UInt8) ∉ l) (y : I3) (hy : okI y = true) : l ≠ body y := by
 intro e
 have ho := body_op hy e ⟨by omega, by omega⟩ hw
 apply hn
 rw [e]
 unfold body
 rw [toL, txL, ho]
 rcases hu with hu | hu
 · rw [hu]; simp
 · rw [hu]; cases usesTo (op : Int) <;> simp
theorem isBody_10 (hO : usesTo op = true) (hX : usesTx op = false) (hm : (32 : UInt8) ∈ l) : IsBody l ⟨op, ⟨#[]⟩, rn40 (restOf l)⟩ (num40 (restOf l)) := by
 obtain ⟨hp, _⟩ := word_parts hm
 constructor
 · intro hn
   obtain ⟨n0, n40, nd⟩ := num40_of hn
   rw [rn_yes hn]
   refine ⟨okI_mk ⟨by show (1 : Int) ≤ op; omega, by show (op : Int) ≤ 11; omega⟩ (.inl hO) (.inr tx0) n0 n40 (by show ((0 : Nat) : Int) ≤ 300; omega), ?_⟩
   unfold body
   rw [toL, txL]
   simp only [hO, hX, if_true, Bool.false_eq_true, if_false, List.append_nil]
   rw [← nd, hw]; exact hp
 · intro hn y hy e
   have ho := body_op hy e ⟨by omega, by omega⟩ hw
   obtain ⟨_, _, _, y0, y40, _⟩ := okI_bad hy
   have : restOf l = Lib.decDigits y.to.toNat := by
    rw [e]
    unfold body
    rw [toL, txL, ho, hO, hX]
    simp only [if_true, Bool.false_eq_true, if_false, List.append_nil]
    exact (word_split (word_no32 _).1).2
   rw [this, num40_dec _ (by omega)] at hn
   cases hn
theorem isBody_01 (hO : usesTo op = false) (hX : usesTx op = true) (hm : (32 : UInt8) ∈ l) (h300 : l.length ≤ 300) {t : List UInt8} {ok : Bool} (hu : (ok = true → restOf l = quoteL t) ∧ (ok = false → ∀ q, restOf l ≠ quoteL q)) : IsBody l ⟨op, ofL t, 0⟩ ok := by
 obtain ⟨hp, _⟩ := word_parts hm
 constructor
 · intro hk
   have hq := hu.1 hk
   have hlen : t.length ≤ 300 := by
    have := quote_ge t
    have h3 := congrArg List.length hp
    rw [hq] at h3
    simp only [List.length_append, List.length_cons] at h3
    omega
   refine ⟨okI_mk ⟨by show (1 : Int) ≤ op; omega, by show (op : Int) ≤ 11; omega⟩ (.inr rfl) (.inl hX) (Int.le_refl _) (by show (0 : Int) ≤ 40; omega) (by show ((ofL t).size : Int) ≤ 300; rw [ofL_size]; omega), ?_⟩
   unfold body
   rw [toL, txL]
   simp only [hO, hX, if_true, Bool.false_eq_true, if_false, List.append_nil]
   have : (ofL t).data.toList = t := rfl
   rw [this, ← hq, hw]; exact hp
 · intro hk y hy e
   have ho := body_op hy e ⟨by omega, by omega⟩ hw
   apply hu.2 hk y.tx.data.toList
   rw [e]
   unfold body
   rw [toL, txL, ho, hO, hX]
   simp only [if_true, Bool.false_eq_true, if_false, List.append_nil]
   exact (word_split (word_no32 _).1).2
theorem no_blank2 (hO : usesTo op = true) (hX : usesTx op = true) (hn : (32 : UInt8) ∉ restOf l) (y : I3) (hy : okI y = true) : l ≠ body y := by
 intro e
 have ho := body_op hy e ⟨by omega, by omega⟩ hw
 apply hn
 rw [e]
 unfold body
 rw [toL, txL, ho, hO, hX]
 simp only [if_true, List.append_assoc, List.cons_append]
 rw [(word_split (word_no32 _).1).2]
 simp
theorem isBody_11 (hO : usesTo op = true) (hX : usesTx op = true) (hm : (32 : UInt8) ∈ l) (hm2 : (32 : UInt8) ∈ restOf l) (h300 : l.length ≤ 300) (hn : num40 (wordOf (restOf l)) = true) {t : List UInt8} {ok : Bool} (hu : (ok = true → restOf (restOf l) = quoteL t) ∧ (ok = false → ∀ q, restOf (restOf l) ≠ quoteL q)) : IsBody l ⟨op, ofL t, rn40 (wordOf (restOf l))⟩ ok := by
 obtain ⟨hp, _⟩ := word_parts hm
 obtain ⟨hp2, _⟩ := word_parts hm2
 obtain ⟨n0, n40, nd⟩ := num40_of hn
 rw [rn_yes hn]
 constructor
 · intro hk
   have hq := hu.1 hk
   have hlen : t.length ≤ 300 := by
    have := quote_ge t
    have h3 := congrArg List.length hp
    have h4 := congrArg List.length hp2
    rw [hq] at h4
    simp only [List.length_append, List.length_cons] at h3 h4
    omega
   refine ⟨okI_mk ⟨by show (1 : Int) ≤ op; omega, by show (op : Int) ≤ 11; omega⟩ (.inl hO) (.inl hX) n0 n40 (by show ((ofL t).size : Int) ≤ 300; rw [ofL_size]; omega), ?_⟩
   unfold body
   rw [toL, txL]
   simp only [hO, hX, if_true, List.append_assoc, List.cons_append]
   have : (ofL t).data.toList = t := rfl
   rw [this, ← hq, ← nd, hw, ← hp2]; exact hp
 · intro hk y hy e
   have ho := body_op hy e ⟨by omega, by omega⟩ hw
   apply hu.2 hk y.tx.data.toList
   rw [e]
   unfold body
   rw [toL, txL, ho, hO, hX]
   simp only [if_true, List.append_assoc, List.cons_append]
   rw [(word_split (word_no32 _).1).2, (word_split (decD_no32 _).1).2]
theorem noBody_11 (hO : usesTo op = true) (hX : usesTx op = true) (hn : num40 (wordOf (restOf l)) = false) (y : I3) (hy : okI y = true) : l ≠ body y := by
 intro e
 have ho := body_op hy e ⟨by omega, by omega⟩ hw
 obtain ⟨_, _, _, y0, y40, _⟩ := okI_bad hy
 have : wordOf (restOf l) = Lib.decDigits y.to.toNat := by
  rw [e]
  unfold body
  rw [toL, txL, ho, hO, hX]
  simp only [if_true, List.append_assoc, List.cons_append]
  rw [(word_split (word_no32 _).1).2, (word_split (decD_no32 _).1).1]
 rw [this, num40_dec _ (by omega)] at hn
 cases hn
end
end Go.Proofs.YtpjpckmfehfniaaGreatDoor
