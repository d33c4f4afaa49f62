import Derived.Test.YtejlfpolnddfdaaDoorR6
import Derived.Test.YtejlfpolnddfdaaDoorR7
import Derived.Test.YtejlfpolnddfdaaDoorZB
namespace Go.Proofs.YtejlfpolnddfdaaDoor
open Go.RowKit
theorem row4n (w : World) (x y z q : Value) (t : TypeId) : ∀ j u, [x, y, z, q][j]? = some u → (w.alloc (.cells #[x, y, z, q] t)).cell? ((⟨w.heap.size, 0, none⟩ : Addr).add j) = some u := by
  intro j u h
  match j, h with
  | 0, h => simp at h; subst h; simp [Addr.add]
  | 1, h => simp at h; subst h; simp [Addr.add]
  | 2, h => simp at h; subst h; simp [Addr.add]
  | 3, h => simp at h; subst h; simp [Addr.add]
theorem row4g {w : World} {g : Nat} (hg : g = w.heap.size) (x y z q : Value) (t : TypeId) : ∀ j u, [x, y, z, q][j]? = some u → (w.alloc (.cells #[x, y, z, q] t)).cell? ((⟨g, 0, none⟩ : Addr).add j) = some u := by
  subst hg; exact row4n w x y z q t
theorem lkC_snoc (is : List L4) (x : L4) : lkC (is ++ [x]) = lkC is ++ [.bool x.has, .string x.nm, .int .i64 x.cd, .string x.tx] := by simp [lkC]
/-- The looks read so far. -/
def LkTo (ss : List (List UInt8)) (k : Nat) (xs : List L4) : Prop := xs.length = k ∧ ∀ i, i < k → RdLook (ss.getD i []) (xs.getD i l4z) true ∧ (xs.getD i l4z).le 1048576
theorem lkTo_snoc {ss : List (List UInt8)} {k : Nat} {xs : List L4} {x : L4} (h : LkTo ss k xs) (hr : RdLook (ss.getD k []) x true) (hx : x.le 1048576) : LkTo ss (k + 1) (xs ++ [x]) := by
  obtain ⟨h1, h2⟩ := h
  refine ⟨by simp [h1], fun i hi => ?_⟩
  rcases Nat.lt_or_ge i k with hk | hk
  · have e : (xs ++ [x]).getD i l4z = xs.getD i l4z := by
      simp only [List.getD_eq_getElem?_getD]
      rw [List.getElem?_append_left (by omega)]
    rw [e]; exact h2 i hk
  · obtain rfl : i = k := by omega
    have e : (xs ++ [x]).getD i l4z = x := by
      simp only [List.getD_eq_getElem?_getD]
      rw [List.getElem?_append_right (by omega), h1]; simp
    rw [e]; exact ⟨hr, hx⟩
theorem lkTo_all {ss : List (List UInt8)} {xs : List L4} (h : LkTo ss ss.length xs) : RdLooks ss xs true ∧ ∀ i, (xs.getD i l4z).le 1048576 := by
  refine ⟨rdLooks_yes h.1 fun i hi => (h.2 i hi).1, fun i => ?_⟩
  rcases Nat.lt_or_ge i ss.length with hi | hi
  · exact (h.2 i hi).2
  · have : xs.getD i l4z = l4z := by
      simp only [List.getD_eq_getElem?_getD]
      rw [List.getElem?_eq_none (by have := h.1; omega)]; rfl
    rw [this]; exact ⟨Nat.zero_le _, Nat.zero_le _⟩
def Is105 (w w' : World) (ss : List (List UInt8)) (e : Ending) : Prop := ∃ (xs : List L4) (ok : Bool) (ao : Option Addr) (c : Nat), e = .returned (.tuple #[.slice ao xs.length c, .bool ok]) ∧ RdLooks ss xs ok ∧ (∀ i, (xs.getD i l4z).le 1048576) ∧ xs.length ≤ ss.length ∧ LkOwn w' w.heap.size ao xs
set_option maxHeartbeats 4000000 in
set_option maxRecDepth 100000 in
theorem c52 (bk o cp : Nat) (ss : List (List UInt8)) (w : World) (hmx : MaxAt w) (hc : LinesIn w bk o ss) (hsz : ∀ i, i < ss.length → (ss.getD i []).length ≤ 16000) (hl : ss.length ≤ 16001) :
    Calls Tryd.prog 52 #[.slice (some ⟨bk, o, none⟩) ss.length cp] w fun e w' => Is105 w w' ss e ∧ Below w.heap.size w w' := by
  obtain ⟨i0, hi, hz0, hz1, hz2⟩ := info_parts info43
  have HC : Hid (LinesIn w bk o ss) := hc
  have HM : Hid (MaxAt w) := hmx
  have HZ : Hid (∀ i, i < ss.length → (ss.getD i []).length ≤ 16000) := hsz
  have hbk := hc.1
  clear hc hsz hmx
  go_enter Tryd.func52, Tryd.ntmps52
  go_wp2_with fail
  go_loopw [4, 11] (fun v i wr => ∃ (k : Nat) (xs : List L4), k ≤ ss.length ∧ i = .int .i64 k ∧ wr.ownsRow w.heap.size 43 4 v k (lkC xs) ∧ Hid (LkTo ss k xs) ∧ Below w.heap.size w wr) (fun _ i _ => ss.length - (intOf i).toNat)
  case atStart => exact ⟨0, [], Nat.zero_le _, rfl, ⟨rfl, .inl ⟨rfl, rfl⟩⟩, ⟨rfl, fun i hi => by omega⟩, Below.refl _ _⟩
  case round =>
    obtain ⟨k, xs, hk, rfl, hown, ha, hb⟩ := hrel
    by_cases hlt : k < ss.length
    · have hcell : wr.cell? ⟨bk, o + k, none⟩ = some (.string (ofL (ss.getD k []))) := (hb.cell (by exact hbk)).trans (HC.out.2 k hlt)
      have hr := HZ.out k hlt
      have hmr : MaxAt wr := max_below HM.out hb
      have HNo : Hid (∀ x, RdLook (ss.getD k []) x false → RdLooks ss [] false) := fun x h => rdLooks_no hlt h []
      have HYes : Hid (∀ x : L4, RdLook (ss.getD k []) x true → x.le 1048576 → LkTo ss (k + 1) (xs ++ [x])) := fun x h1 h2 => lkTo_snoc ha.out h1 h2
      have hz0' : w.heap.size ≤ wr.heap.size := hb.size
      generalize ss.getD k [] = t at *
      go_wp2_with fail
      refine (c65 t _ hr (max_below hmr ?drw)).mono ?_
      case drw => first | exact Below.refl _ _ | exact (Below.refl _ _).drew | exact (Below.refl _ _).drew.drew
      rintro e w1 ⟨⟨x, ok, rfl, hrd, hx⟩, hb1⟩
      have HB1 : Hid (Below wr.heap.size wr w1) := by first | exact hb1 | exact ((Below.refl _ _).drew).trans hb1
      have hown1 : w1.ownsRow w.heap.size 43 4 u4 k (lkC xs) := own_under hown HB1.out
      have hz1' : wr.heap.size ≤ w1.heap.size := HB1.out.size
      have hBw1 : Below w.heap.size w w1 := hb.trans (HB1.out.mono hb.size)
      clear hb1 hown
      unfold L4.v
      cases ok
      · have HR : Hid (∀ u, Is105 w u ss (.returned (.tuple #[.slice none 0 0, .bool false]))) := fun u => ⟨[], false, none, 0, rfl, HNo.out x hrd, fun i => ⟨Nat.zero_le _, Nat.zero_le _⟩, Nat.zero_le _, .inl rfl, .inl rfl⟩
        clear HNo HYes hrd
        go_wp2
        go_ret2
        exact ⟨HR.out _, hBw1.alloc hBw1.size _⟩
      · have HT : Hid (LkTo ss (k + 1) (xs ++ [x])) := HYes.out x hrd hx
        clear HNo HYes hrd
        go_wp2_with (at_builtin; refine wpList_append_own _ rfl _ _ 26 rfl w.heap.size 43 i0 (.agg #[.bool false, .string ⟨#[]⟩, .int .i64 0, .string ⟨#[]⟩]) 4 48 Tryd.underlying26 hi hz0 hz1 hz2 rfl (by decide) _ _ _ rfl ((hown1.alloc _).alloc _) ⟨w1.heap.size + 1, 0, none⟩ 1 1 [_, _, _, _] rfl rfl (row4g (by simp) _ _ _ _ _) (by intro u hu; simp at hu; rcases hu with rfl | rfl | rfl | rfl <;> rfl) (by unfold maxLen; omega) (by omega) (by simp; omega) ?_; intro v' w2 hown' hgrow _)
        go_roundw
        case rel =>
          have hB2 : Below w.heap.size w w2 := ((hBw1.alloc hBw1.size _).alloc (by simp; omega) _).grown hgrow (by simp; omega) (fun j hj => (hown1.lt j hj).1)
          refine ⟨k + 1, xs ++ [x], by omega, by go_num, ?_, HT, hB2⟩
          rw [lkC_snoc]
          exact hown'
        case measure => simp [intOf]; omega
    · have HT : Hid (RdLooks ss xs true ∧ (∀ i, (xs.getD i l4z).le 1048576) ∧ xs.length = ss.length) := by
        obtain rfl : k = ss.length := by omega
        exact ⟨(lkTo_all ha.out).1, (lkTo_all ha.out).2, ha.out.1⟩
      obtain rfl : k = ss.length := by omega
      obtain ⟨ao, c, hv, hlk⟩ := own_lks hown HT.out.2.2.symm
      subst hv
      go_wp2
      go_ret2
      exact ⟨⟨xs, true, ao, c, by rw [HT.out.2.2]; rfl, HT.out.1, HT.out.2.1, by rw [HT.out.2.2]; exact Nat.le_refl _, hlk⟩, hb⟩
end Go.Proofs.YtejlfpolnddfdaaDoor
