import Derived.Test.YtdcgjdgpiogdaaaGreatDoorG30
import Derived.Test.YtdcgjdgpiogdaaaGreatDoorG32
import Derived.Test.YtdcgjdgpiogdaaaGreatDoorZB
import Derived.Test.YtdcgjdgpiogdaaaGreatDoorRM
namespace Go.Proofs.YtdcgjdgpiogdaaaGreatDoor
open Go.RowKit
theorem row4n (w : World) (x y z q : Value) (t : TypeId) : ∀ j u, [x, y, z, q][j]? = some u → (w.alloc (.cells #[x, y, z, q] t)).cell? ((⟨w.heap.size, 0, none⟩ : Addr).add j) = some u := by
  intro j u h
  match j, h with
  | 0, h => simp at h; subst h; simp [Addr.add]
  | 1, h => simp at h; subst h; simp [Addr.add]
  | 2, h => simp at h; subst h; simp [Addr.add]
  | 3, h => simp at h; subst h; simp [Addr.add]
theorem row4g {w : World} {g : Nat} (hg : g = w.heap.size) (x y z q : Value) (t : TypeId) : ∀ j u, [x, y, z, q][j]? = some u → (w.alloc (.cells #[x, y, z, q] t)).cell? ((⟨g, 0, none⟩ : Addr).add j) = some u := by
  subst hg; exact row4n w x y z q t
theorem lkC_snoc (is : List L4) (x : L4) : lkC (is ++ [x]) = lkC is ++ [.bool x.has, .string x.nm, .int .i64 x.cd, .string x.tx] := by simp [lkC]
/-- The looks read so far. -/
def LkTo (ss : List (List UInt8)) (k : Nat) (xs : List L4) : Prop := xs.length = k ∧ ∀ i, i < k → RdLook (ss.getD i []) (xs.getD i l4z) true ∧ (xs.getD i l4z).le 1048576
theorem lkTo_snoc {ss : List (List UInt8)} {k : Nat} {xs : List L4} {x : L4} (h : LkTo ss k xs) (hr : RdLook (ss.getD k []) x true) (hx : x.le 1048576) : LkTo ss (k + 1) (xs ++ [x]) := by
  obtain ⟨h1, h2⟩ := h
  refine ⟨by simp [h1], fun i hi => ?_⟩
  rcases Nat.lt_or_ge i k with hk | hk
  · have e : (xs ++ [x]).getD i l4z = xs.getD i l4z := by
      simp only [List.getD_eq_getElem?_getD]
      rw [List.getElem?_append_left (by omega)]
    rw [e]; exact h2 i hk
  · obtain rfl : i = k := by omega
    have e : (xs ++ [x]).getD i l4z = x := by
      simp only [List.getD_eq_getElem?_getD]
      rw [List.getElem?_append_right (by omega), h1]; simp
    rw [e]; exact ⟨hr, hx⟩
theorem lkTo_all {ss : List (List UInt8)} {xs : List L4} (h : LkTo ss ss.length xs) : RdLooks ss xs true ∧ ∀ i, (xs.getD i l4z).le 1048576 := by
  refine ⟨rdLooks_yes h.1 fun i hi => (h.2 i hi).1, fun i => ?_⟩
  rcases Nat.lt_or_ge i ss.length with hi | hi
  · exact (h.2 i hi).2
  · have : xs.getD i l4z = l4z := by
      simp only [List.getD_eq_getElem?_getD]
      rw [List.getElem?_eq_none (by have := h.1; omega)]; rfl
    rw [this]; exact ⟨Nat.zero_le _, Nat.zero_le _⟩
def Is105 (w w' : World) (ss : List (List UInt8)) (e : Ending) : Prop := ∃ (xs : List L4) (ok : Bool) (ao : Option Addr) (c : Nat), e = .returned (.tuple #[.slice ao xs.length c, .bool ok]) ∧ RdLooks ss xs ok ∧ (∀ i, (xs.getD i l4z).le 1048576) ∧ xs.length ≤ ss.length ∧ LkOwn w' w.heap.size ao xs
set_option maxHeartbeats 4000000 in
set_option maxRecDepth 100000 in
theorem c105 (bk o cp : Nat) (ss : List (List UInt8)) (w : World) (hmx : MaxAt w) (hc : LinesIn w bk o ss) (hsz : ∀ i, i < ss.length → (ss.getD i []).length ≤ 16000) (hl : ss.length ≤ 16001) :
    Calls Tryz.prog 105 #[.slice (some ⟨bk, o, none⟩) ss.length cp] w fun e w' => Is105 w w' ss e ∧ Below w.heap.size w w' := by
  obtain ⟨i0, hi, hz0, hz1, hz2⟩ := info_parts info87
  have HC : Hid (LinesIn w bk o ss) := hc
  have HM : Hid (MaxAt w) := hmx
  have HZ : Hid (∀ i, i < ss.length → (ss.getD i []).length ≤ 16000) := hsz
  have hbk := hc.1
  clear hc hsz hmx
  go_enter Tryz.func105, Tryz.ntmps105
  go_wp2_with fail
  go_loopw [4, 11] (fun v i wr => ∃ (k : Nat) (xs : List L4), k ≤ ss.length ∧ i = .int .i64 k ∧ wr.ownsRow w.heap.size 87 4 v k (lkC xs) ∧ Hid (LkTo ss k xs) ∧ Below w.heap.size w wr) (fun _ i _ => ss.length - (intOf i).toNat)
  case atStart => exact ⟨0, [], Nat.zero_le _, rfl, ⟨rfl, .inl ⟨rfl, rfl⟩⟩, ⟨rfl, fun i hi => by omega⟩, Below.refl _ _⟩
  case round =>
    obtain ⟨k, xs, hk, rfl, hown, ha, hb⟩ := hrel
    by_cases hlt : k < ss.length
    · have hcell : wr.cell? ⟨bk, o + k, none⟩ = some (.string (ofL (ss.getD k []))) := (hb.cell (by exact hbk)).trans (HC.out.2 k hlt)
      have hr := HZ.out k hlt
      have hmr : MaxAt wr := max_below HM.out hb
      have HNo : Hid (∀ x, RdLook (ss.getD k []) x false → RdLooks ss [] false) := fun x h => rdLooks_no hlt h []
      have HYes : Hid (∀ x : L4, RdLook (ss.getD k []) x true → x.le 1048576 → LkTo ss (k + 1) (xs ++ [x])) := fun x h1 h2 => lkTo_snoc ha.out h1 h2
      have hz0' : w.heap.size ≤ wr.heap.size := hb.size
      generalize ss.getD k [] = t at *
      go_wp2_with fail
      refine (c126 t _ hr (max_below hmr ?drw)).mono ?_
      case drw => first | exact Below.refl _ _ | exact (Below.refl _ _).drew | exact (Below.refl _ _).drew.drew
      rintro e w1 ⟨⟨x, ok, rfl, hrd, hx⟩, hb1⟩
      have HB1 : Hid (Below wr.heap.size wr w1) := by first | exact hb1 | exact ((Below.refl _ _).drew).trans hb1
      have hown1 : w1.ownsRow w.heap.size 87 4 u4 k (lkC xs) := own_under hown HB1.out
      have hz1' : wr.heap.size ≤ w1.heap.size := HB1.out.size
      have hBw1 : Below w.heap.size w w1 := hb.trans (HB1.out.mono hb.size)
      clear hb1 hown
      unfold L4.v
      cases ok
      · have HR : Hid (∀ u, Is105 w u ss (.returned (.tuple #[.slice none 0 0, .bool false]))) := fun u => ⟨[], false, none, 0, rfl, HNo.out x hrd, fun i => ⟨Nat.zero_le _, Nat.zero_le _⟩, Nat.zero_le _, .inl rfl, .inl rfl⟩
        clear HNo HYes hrd
        go_wp2
        go_ret2
        exact ⟨HR.out _, hBw1.alloc hBw1.size _⟩
      · have HT : Hid (LkTo ss (k + 1) (xs ++ [x])) := HYes.out x hrd hx
        clear HNo HYes hrd
        go_wp2_with (at_builtin; refine wpList_append_own _ rfl _ _ 36 rfl w.heap.size 87 i0 (.agg #[.bool false, .string ⟨#[]⟩, .int .i64 0, .string ⟨#[]⟩]) 4 48 Tryz.underlying36 hi hz0 hz1 hz2 rfl (by decide) _ _ _ rfl ((hown1.alloc _).alloc _) ⟨w1.heap.size + 1, 0, none⟩ 1 1 [_, _, _, _] rfl rfl (row4g (by simp) _ _ _ _ _) (by intro u hu; simp at hu; rcases hu with rfl | rfl | rfl | rfl <;> rfl) (by unfold maxLen; omega) (by omega) (by simp; omega) ?_; intro v' w2 hown' hgrow _)
        go_roundw
        case rel =>
          have hB2 : Below w.heap.size w w2 := ((hBw1.alloc hBw1.size _).alloc (by simp; omega) _).grown hgrow (by simp; omega) (fun j hj => (hown1.lt j hj).1)
          refine ⟨k + 1, xs ++ [x], by omega, by go_num, ?_, HT, hB2⟩
          rw [lkC_snoc]
          exact hown'
        case measure => simp [intOf]; omega
    · have HT : Hid (RdLooks ss xs true ∧ (∀ i, (xs.getD i l4z).le 1048576) ∧ xs.length = ss.length) := by
        obtain rfl : k = ss.length := by omega
        exact ⟨(lkTo_all ha.out).1, (lkTo_all ha.out).2, ha.out.1⟩
      obtain rfl : k = ss.length := by omega
      obtain ⟨ao, c, hv, hlk⟩ := own_lks hown HT.out.2.2.symm
      subst hv
      go_wp2
      go_ret2
      exact ⟨⟨xs, true, ao, c, by rw [HT.out.2.2]; rfl, HT.out.1, HT.out.2.1, by rw [HT.out.2.2]; exact Nat.le_refl _, hlk⟩, hb⟩
end Go.Proofs.YtdcgjdgpiogdaaaGreatDoor
namespace Go.Proofs.YtdcgjdgpiogdaaaGreatDoor
open Go.RowKit
def T6.v (x : T6) : Value := .agg #[.bool x.over, .int .i64 x.cd, .string x.tx, .bool x.has, .string x.nm, .int .i64 x.st]
/-- A turn's line read: what it is. -/
def Is111 (l : List UInt8) (e : Ending) : Prop := ∃ (x : T6) (ok : Bool), e = .returned (.tuple #[x.v, .bool ok]) ∧ RdTn l x ok ∧ x.le 1048576 ∧ x.st = 0
theorem over_word (l : List UInt8) : ((ofL (wordOf l)).toList == [111, 118, 101, 114]) = decide (wordOf l = [111, 118, 101, 114]) := by
  rw [ByteArray.toList_eq, ofL_list]
  by_cases h : wordOf l = [111, 118, 101, 114]
  · rw [h]; rfl
  · rw [decide_eq_false h]; exact beq_eq_false_iff_ne.2 h
set_option maxHeartbeats 4000000 in
set_option maxRecDepth 100000 in
theorem c111 (l : List UInt8) (w : World) (hs : l.length ≤ 16000) (hmx : MaxAt w) :
    Calls Tryz.prog 111 #[.string (ofL l)] w fun e w' => Is111 l e ∧ Below w.heap.size w w' := by
  have hB0 : Below w.heap.size w (w.alloc (.cells #[.bool false, .int .i64 0, .string ⟨#[]⟩, .bool false, .string ⟨#[]⟩, .int .i64 0] 39)) := (Below.refl _ _).alloc (Nat.le_refl _) _
  have hr := rest_small l
  have hov := over_word l
  go_enter Tryz.func111, Tryz.ntmps111
  go_wp2_with fail
  refine (c90w l _ (by omega) (max_below hmx hB0)).mono ?_
  rintro e w1 ⟨⟨y, rfl⟩, hb1⟩
  have hx1 : Below (w.heap.size + 1) (w.alloc (.cells #[.bool false, .int .i64 0, .string ⟨#[]⟩, .bool false, .string ⟨#[]⟩, .int .i64 0] 39)) w1 := by simpa using hb1
  clear hb1
  have hm1 : MaxAt w1 := max_below hmx (hB0.trans (hx1.mono (by omega)))
  by_cases ho : wordOf l = [111, 118, 101, 114]
  · have hd : ((ofL (wordOf l)).toList == [111, 118, 101, 114]) = true := by rw [hov]; exact decide_eq_true ho
    clear hov
    have HW : Hid (wordOf l = [111, 118, 101, 114]) := ho
    generalize hq : ofL (wordOf l) = s at *
    clear ho
    go_wp2_with fail
    refine (c128 (restOf l) _ (by omega) hm1).mono ?_
    rintro e w2 ⟨⟨c, t, ok, rfl, hrr, hts⟩, hb2⟩
    have hx2 := hx1.trans (hb2.mono (by have h := hx1.size; simp at h; omega))
    clear hb2
    have hB2 : Below w.heap.size w w2 := hB0.trans (hx2.mono (by omega))
    have HI : Hid (Is111 l (.returned (.tuple #[.agg #[.bool true, .int .i64 c, .string t, .bool false, .string ⟨#[]⟩, .int .i64 0], .bool ok]))) := ⟨⟨true, c, t, false, ⟨#[]⟩, 0⟩, ok, rfl, rdTn_over HW.out hrr 0, ⟨hts, Nat.zero_le _⟩, rfl⟩
    clear hrr
    obtain ⟨bA, oA⟩ := blk_keep (vs := [.bool false, .int .i64 0, .string ⟨#[]⟩, .bool false, .string ⟨#[]⟩, .int .i64 0]) hx2
    have hz4 : w.heap.size < w2.heap.size := by have h := hx2.size; simp at h; omega
    have hA := fun o => bA.below ((Below.refl w2.heap.size w2).alloc (Nat.le_refl _) o) hz4
    have hO := fun o => oA.below ((Below.refl w2.heap.size w2).alloc (Nat.le_refl _) o) hz4
    have x0 := bA 0 _ rfl
    have f0 := oA 0
    have z0 := fun o => hA o 0 _ rfl
    have y0 := fun o => hO o 0
    have x1 := bA 1 _ rfl
    have f1 := oA 1
    have z1 := fun o => hA o 1 _ rfl
    have y1 := fun o => hO o 1
    have x2 := bA 2 _ rfl
    have f2 := oA 2
    have z2 := fun o => hA o 2 _ rfl
    have y2 := fun o => hO o 2
    have x3 := bA 3 _ rfl
    have f3 := oA 3
    have z3 := fun o => hA o 3 _ rfl
    have y3 := fun o => hO o 3
    have x4 := bA 4 _ rfl
    have f4 := oA 4
    have z4 := fun o => hA o 4 _ rfl
    have y4 := fun o => hO o 4
    have x5 := bA 5 _ rfl
    have f5 := oA 5
    have z5 := fun o => hA o 5 _ rfl
    have y5 := fun o => hO o 5
    go_wp2
    have FF := BlkAt.fill (B := w.heap.size) [.bool true, .int .i64 c, .string t, .bool false, .string ⟨#[]⟩, .int .i64 0] [] [.bool false, .int .i64 0, .string ⟨#[]⟩, .bool false, .string ⟨#[]⟩, .int .i64 0] [] 0 bA rfl rfl
    have GG : Below w.heap.size w (fill w2 w.heap.size 0 [.bool true, .int .i64 c, .string t, .bool false, .string ⟨#[]⟩, .int .i64 0]) := below_fill (Nat.le_refl _) _ 0 hB2
    have GZ : w.heap.size ≤ (fill w2 w.heap.size 0 [.bool true, .int .i64 c, .string t, .bool false, .string ⟨#[]⟩, .int .i64 0]).heap.size := GG.size
    refine bodyPost_ret (v := .tuple #[.agg #[.bool true, .int .i64 c, .string t, .bool false, .string ⟨#[]⟩, .int .i64 0], .bool ok]) (by exact results_blk2 Tryz.results111 _ _ w.heap.size _ _ _ rfl rfl (FF.below ((Below.refl _ _).alloc (Nat.le_refl _) _) (by rw [size_fill]; exact hz4)) Tryz.underlying39 rfl (by kernel_rfl)) rfl ⟨HI.out, by exact GG.alloc GZ _⟩
  · have hd : ((ofL (wordOf l)).toList == [111, 118, 101, 114]) = false := by rw [hov]; exact decide_eq_false ho
    clear hov
    have HW : Hid (wordOf l ≠ [111, 118, 101, 114]) := ho
    have h129 := c129 l
    generalize hq : ofL (wordOf l) = s at *
    clear ho
    go_wp2_with fail
    refine (h129 _).mono ?_
    rintro e w2 ⟨rfl, hb2⟩
    have hx2 := hx1.trans (hb2.mono (by have h := hx1.size; simp at h; omega))
    clear hb2
    have hB2 : Below w.heap.size w w2 := hB0.trans (hx2.mono (by omega))
    have HI : Hid (Is111 l (.returned (.tuple #[.agg #[.bool false, .int .i64 0, .string ⟨#[]⟩, .bool (hasW l), .string (ofL (restOf l)), .int .i64 0], .bool (isW l)]))) := ⟨⟨false, 0, ⟨#[]⟩, hasW l, ofL (restOf l), 0⟩, isW l, rfl, rdTn_look HW.out 0, ⟨Nat.zero_le _, by show (ofL (restOf l)).size ≤ 1048576; rw [ofL_size]; omega⟩, rfl⟩
    obtain ⟨bA, oA⟩ := blk_keep (vs := [.bool false, .int .i64 0, .string ⟨#[]⟩, .bool false, .string ⟨#[]⟩, .int .i64 0]) hx2
    have x0 := bA 0 _ rfl
    have f0 := oA 0
    have x1 := bA 1 _ rfl
    have f1 := oA 1
    have x2 := bA 2 _ rfl
    have f2 := oA 2
    have x3 := bA 3 _ rfl
    have f3 := oA 3
    have x4 := bA 4 _ rfl
    have f4 := oA 4
    have x5 := bA 5 _ rfl
    have f5 := oA 5
    go_wp2
    have FF := BlkAt.fill (B := w.heap.size) [.bool false, .int .i64 0, .string ⟨#[]⟩, .bool (hasW l), .string (ofL (restOf l)), .int .i64 0] [] [.bool false, .int .i64 0, .string ⟨#[]⟩, .bool false, .string ⟨#[]⟩, .int .i64 0] [] 0 bA rfl rfl
    have GG : Below w.heap.size w (fill w2 w.heap.size 0 [.bool false, .int .i64 0, .string ⟨#[]⟩, .bool (hasW l), .string (ofL (restOf l)), .int .i64 0]) := below_fill (Nat.le_refl _) _ 0 hB2
    have GZ : w.heap.size ≤ (fill w2 w.heap.size 0 [.bool false, .int .i64 0, .string ⟨#[]⟩, .bool (hasW l), .string (ofL (restOf l)), .int .i64 0]).heap.size := GG.size
    refine bodyPost_ret (v := .tuple #[.agg #[.bool false, .int .i64 0, .string ⟨#[]⟩, .bool (hasW l), .string (ofL (restOf l)), .int .i64 0], .bool (isW l)]) (by exact results_blk2 Tryz.results111 _ _ w.heap.size _ _ _ rfl rfl FF Tryz.underlying39 rfl (by kernel_rfl)) rfl ⟨HI.out, by exact GG⟩
end Go.Proofs.YtdcgjdgpiogdaaaGreatDoor
namespace Go.Proofs.YtdcgjdgpiogdaaaGreatDoor
open Go.RowKit
def G16.c (x : G16) (ai : Option Addr) (ci : Nat) : List Value := [.int .i64 x.kd, .int .i64 x.to, .int .i64 x.fr, .int .i64 x.ep, .int .i64 x.ed, .string x.km.nm, .string x.km.tl, .string x.km.ar, .slice ai x.ls.length ci, .int .i64 x.ct, .bool x.tn.over, .int .i64 x.tn.cd, .string x.tn.tx, .bool x.tn.has, .string x.tn.nm, .int .i64 x.tn.st]
theorem G16.c_one (x : G16) (ai : Option Addr) (ci : Nat) : ∀ v ∈ x.c ai ci, v.oneCell' = true := by simp [G16.c, Value.oneCell']
def zG : List Value := [.int .i64 0, .int .i64 0, .int .i64 0, .int .i64 0, .int .i64 0, .string ⟨#[]⟩, .string ⟨#[]⟩, .string ⟨#[]⟩, .slice none 0 0, .int .i64 0, .bool false, .int .i64 0, .string ⟨#[]⟩, .bool false, .string ⟨#[]⟩, .int .i64 0]
/-- A message read: what it is. -/
def IsRd (k : Int) (f : List UInt8) (b : List (List UInt8)) (w w' : World) (e : Ending) : Prop := ∃ (x : G16) (ok : Bool) (ai : Option Addr) (ci : Nat), e = .returned (.tuple #[.agg (x.c ai ci).toArray, .bool ok]) ∧ RdMsg k f b x ok ∧ (ok = true → x.kd = k) ∧ x.le 1048576 ∧ LkOwn w' w.heap.size ai x.ls
theorem isRd_no {k : Int} {f : List UInt8} {b : List (List UInt8)} (h : RdMsg k f b g16z false) (w w' : World) : IsRd k f b w w' (.returned (.tuple #[.agg zG.toArray, .bool false])) :=
  ⟨g16z, false, none, 0, rfl, h, (fun h => by cases h), ⟨⟨Nat.zero_le _, Nat.zero_le _, Nat.zero_le _⟩, ⟨Nat.zero_le _, fun _ => ⟨Nat.zero_le _, Nat.zero_le _⟩⟩, ⟨Nat.zero_le _, Nat.zero_le _⟩⟩, .inl rfl, .inl rfl⟩
theorem blk_some {u : World} {B : Nat} {vs : List Value} (h : BlkAt u B vs) (ws : List Value) (hl : ws.length = vs.length) : ∀ i, i < ws.length → (u.cell? ⟨B, 0 + i, none⟩).isSome = true := fun i hi => by
  rw [Nat.zero_add, h i _ (List.getElem?_eq_getElem (by omega))]; rfl
/-- Where nothing is read. -/
theorem fin_no {w u : World} {a : Act} {k : Int} {f : List UInt8} {b : List (List UInt8)} {fn : Func} (hr : fn.results = #[.cell 4 41, .tmp 5]) (hn : RdMsg k f b g16z false) (h4 : a.tmps.getD 4 undef = .pointer (some ⟨w.heap.size, 0, none⟩)) (h5 : a.tmps.getD 5 undef = .bool false) (hd : a.defers = []) (hA : BlkAt u w.heap.size zG) (hb : Below w.heap.size w u) :
    bodyPost Tryz.prog fn (fun e w' => IsRd k f b w w' e ∧ Below w.heap.size w w') .ret a (fill u w.heap.size 0 zG) := by
  have FF := BlkAt.fill (B := w.heap.size) zG [] zG [] 0 hA rfl rfl
  exact bodyPost_ret (v := .tuple #[.agg zG.toArray, .bool false]) (results_blk2 hr _ _ w.heap.size _ _ _ h4 h5 FF Tryz.underlying41 rfl (by kernel_rfl)) hd ⟨isRd_no hn _ _, below_fill (Nat.le_refl _) _ 0 hb⟩
/-- Where a message is read. -/
theorem fin_yes {w u : World} {a : Act} {k : Int} {f : List UInt8} {b : List (List UInt8)} {fn : Func} (x : G16) (ai : Option Addr) (ci : Nat) (hr : fn.results = #[.cell 4 41, .tmp 5]) (hn : RdMsg k f b x true) (hk : x.kd = k) (hx : x.le 1048576) (hlk : LkOwn u (w.heap.size + 1) ai x.ls) (h4 : a.tmps.getD 4 undef = .pointer (some ⟨w.heap.size, 0, none⟩)) (h5 : a.tmps.getD 5 undef = .bool true) (hd : a.defers = []) (hA : BlkAt u w.heap.size zG) (hb : Below w.heap.size w u) :
    bodyPost Tryz.prog fn (fun e w' => IsRd k f b w w' e ∧ Below w.heap.size w w') .ret a (fill u w.heap.size 0 (x.c ai ci)) := by
  have FF := BlkAt.fill (B := w.heap.size) (x.c ai ci) [] zG [] 0 hA rfl rfl
  have hl := lkown_fill w.heap.size (x.c ai ci) (by omega) 0 hlk
  exact bodyPost_ret (v := .tuple #[.agg (x.c ai ci).toArray, .bool true]) (results_blk2 hr _ _ w.heap.size _ _ _ h4 h5 FF Tryz.underlying41 rfl (by kernel_rfl)) hd ⟨⟨x, true, ai, ci, rfl, hn, (fun _ => hk), hx, hl.mono (by omega)⟩, below_fill (Nat.le_refl _) _ 0 hb⟩
set_option maxHeartbeats 4000000 in
set_option maxRecDepth 100000 in
theorem c84 (f : List UInt8) (b : List (List UInt8)) (g o cp : Nat) (w : World) (hs : f.length ≤ 16000) (hb : b.length ≤ 16001) :
    Calls Tryz.prog 84 #[.string (ofL f), .slice (some ⟨g, o, none⟩) b.length cp] w fun e w' => IsRd 3 f b w w' e ∧ Below w.heap.size w w' := by
  have hB0 : Below w.heap.size w (w.alloc (.cells #[.int .i64 0, .int .i64 0, .int .i64 0, .int .i64 0, .int .i64 0, .string ⟨#[]⟩, .string ⟨#[]⟩, .string ⟨#[]⟩, .slice none 0 0, .int .i64 0, .bool false, .int .i64 0, .string ⟨#[]⟩, .bool false, .string ⟨#[]⟩, .int .i64 0] 41)) := (Below.refl _ _).alloc (Nat.le_refl _) _
  go_enter Tryz.func84, Tryz.ntmps84
  go_wp2_with fail
  have hlin : LinesIn ((w.alloc (.cells #[.int .i64 0, .int .i64 0, .int .i64 0, .int .i64 0, .int .i64 0, .string ⟨#[]⟩, .string ⟨#[]⟩, .string ⟨#[]⟩, .slice none 0 0, .int .i64 0, .bool false, .int .i64 0, .string ⟨#[]⟩, .bool false, .string ⟨#[]⟩, .int .i64 0] 41)).alloc (.cells #[.string (ofL f)] 9)) (w.heap.size + 1) 0 [f] := ⟨by simp, fun i hi => by
    have : i = 0 := by simpa using hi
    subst this
    simp [go_sem]⟩
  refine (c103 (w.heap.size + 1) 0 1 [f] _ hlin (fun i hi => by
    have : i = 0 := by simpa using hi
    subst this
    show f.length ≤ _
    omega) (by simp) (by simp)).mono ?_
  rintro e w1 ⟨hr, hb1⟩
  have hx1 : Below (w.heap.size + 1) (w.alloc (.cells zG.toArray 41)) w1 := ((Below.refl _ _).alloc (by simp) _).trans (hb1.mono (by simp))
  clear hb1 hlin
  obtain ⟨bA, oA⟩ := blk_keep (vs := zG) hx1
  have hB1 : Below w.heap.size w w1 := hB0.trans (hx1.mono (by omega))
  have hS := blk_some bA zG rfl
  rcases hr with ⟨rfl, hn⟩ | ⟨hn, g', cp', rfl, hg0, hg1, hcl⟩
  · have HN : Hid (RdMsg 3 f b g16z false) := rdHere_no (.inl (by simpa using hn)) _
    clear hn
    go_wp2_with (refine wpList_store_blk rfl 41 (.tmp 4) (.tmp 21) rfl w.heap.size 0 rfl zG rfl hS oA (by simp [zG, Value.oneCell']) (by kernel_rfl) rfl ?_)
    exact fin_no Tryz.results84 HN.out rfl rfl rfl bA hB1
  · have c0 := hcl 0 (by simp)
    simp only [List.getD_cons_zero] at c0
    have hn' : numM 1000 f = true := by simpa using hn
    have hlen : ([f] : List (List UInt8)).length = 1 := rfl
    by_cases hbl : 0 < b.length
    · have HN : Hid (RdMsg 3 f b g16z false) := rdHere_no (.inr hbl) _
      clear hn hn'
      go_wp2_with (refine wpList_store_blk rfl 41 (.tmp 4) (.tmp 21) rfl w.heap.size 0 rfl zG rfl hS oA (by simp [zG, Value.oneCell']) (by kernel_rfl) rfl ?_)
      exact fin_no Tryz.results84 HN.out rfl rfl rfl bA hB1
    · have hb0 : b = [] := List.length_eq_zero_iff.1 (by omega)
      subst hb0
      have HN : Hid (RdMsg 3 f [] (hereG (rnM 1000 f)) true) := rdHere_yes hn'
      have hS2 := blk_some bA ((hereG (rnM 1000 f)).c none 0) rfl
      have hO1 := G16.c_one (hereG (rnM 1000 f)) none 0
      clear hn hn' hbl
      go_wp2_with (refine wpList_store_blk rfl 41 (.tmp 4) (.tmp 25) rfl w.heap.size 0 rfl ((hereG (rnM 1000 f)).c none 0) rfl hS2 oA hO1 (by kernel_rfl) rfl ?_)
      exact fin_yes _ none 0 Tryz.results84 HN.out rfl ⟨⟨Nat.zero_le _, Nat.zero_le _, Nat.zero_le _⟩, ⟨Nat.zero_le _, fun _ => ⟨Nat.zero_le _, Nat.zero_le _⟩⟩, ⟨Nat.zero_le _, Nat.zero_le _⟩⟩ ⟨.inl rfl, .inl rfl⟩ rfl rfl rfl bA hB1
end Go.Proofs.YtdcgjdgpiogdaaaGreatDoor
