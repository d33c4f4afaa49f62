import Derived.Test.YtdcgjdgpiogdaaaGreatDoorRN
import Derived.Test.YtdcgjdgpiogdaaaGreatDoorG13
import Derived.Test.YtdcgjdgpiogdaaaGreatDoorRQ
namespace Go.Proofs.YtdcgjdgpiogdaaaGreatDoor
open Go.RowKit
/-- What a text is read as, with a key. -/
def RM (l : List UInt8) (key : ByteArray) (x : G16) (ok : Bool) : Prop := (ok = true → Fm x key ∧ fmL x key = l) ∧ (ok = false → ∀ y, Fm y key → fmL y key ≠ l)
theorem tag_list (b k : ByteArray) (hk : k.size ≤ 30) : (tagS b k).data.toList.length = 8 := by rw [← tag_size b k hk]; simp
theorem fm_parts {y : G16} {key : ByteArray} {l : List UInt8} (h : Fm y key) (e : fmL y key = l) : key.size ≤ 30 ∧ 9 ≤ l.length ∧ l.length ≤ 16000 ∧ l.drop 8 = msgL y ∧ l.take 8 = (tagS (ofL (l.drop 8)) key).data.toList := by
  have h8 := tag_list (ofL (msgL y)) key h.2
  have hl := msg_len h.1
  have hd : l.drop 8 = msgL y := by rw [← e, fmL, ← h8, List.drop_left]
  have ht : l.take 8 = (tagS (ofL (msgL y)) key).data.toList := by
    rw [← e, fmL]
    conv => lhs; rw [← h8]
    exact List.take_left
  have hlen : l.length = 8 + (msgL y).length := by rw [← e, fmL, List.length_append, h8]
  exact ⟨h.2, by omega, by omega, hd, by rw [hd]; exact ht⟩
theorem rm_no {l : List UInt8} {key : ByteArray} (x : G16) (h : l.length < 8 ∨ 16000 < l.length ∨ 30 < key.size) : RM l key x false := by
  refine ⟨(fun h => by cases h), fun _ y hy e => ?_⟩
  obtain ⟨h1, h2, h3, _⟩ := fm_parts hy e
  omega
theorem rm_tag {l : List UInt8} {key : ByteArray} (x : G16) (h : l.take 8 ≠ (tagS (ofL (l.drop 8)) key).data.toList) : RM l key x false := by
  refine ⟨(fun h => by cases h), fun _ y hy e => ?_⟩
  obtain ⟨_, _, _, _, h5⟩ := fm_parts hy e
  exact h h5
theorem rm_mail {l : List UInt8} {key : ByteArray} {x : G16} {ok : Bool} (hk : key.size ≤ 30) (ht : l.take 8 = (tagS (ofL (l.drop 8)) key).data.toList) (h : RdMail (l.drop 8) x ok) : RM l key x ok := by
  constructor
  · intro h1
    obtain ⟨a, b⟩ := h.2 h1
    refine ⟨⟨a, hk⟩, ?_⟩
    rw [fmL, ← b, ← ht]
    exact List.take_append_drop 8 l
  · intro h1 y hy e
    obtain ⟨_, _, _, h4, _⟩ := fm_parts hy e
    have := (h.1 y hy.1 h4).1
    rw [h1] at this; cases this
def Is18 (l : List UInt8) (key : ByteArray) (w w' : World) (e : Ending) : Prop := ∃ (x : G16) (ok : Bool) (ai : Option Addr) (ci : Nat), e = .returned (.tuple #[.agg (x.c ai ci).toArray, .bool ok]) ∧ RM l key x ok ∧ (ok = false → x = g16z ∧ ai = none ∧ ci = 0) ∧ x.le 1048576 ∧ LkOwn w' w.heap.size ai x.ls
theorem is18_no {l : List UInt8} {key : ByteArray} (h : RM l key g16z false) (w w' : World) : Is18 l key w w' (.returned (.tuple #[.agg zG.toArray, .bool false])) :=
  ⟨g16z, false, none, 0, rfl, h, (fun _ => ⟨rfl, rfl, rfl⟩), g16z_le, .inl rfl, .inl rfl⟩
theorem fin18 {w u : World} {a : Act} {l : List UInt8} {key : ByteArray} (x : G16) (ai : Option Addr) (ci : Nat) (ok : Bool) (hn : RM l key x ok) (hz : ok = false → x = g16z ∧ ai = none ∧ ci = 0) (hx : x.le 1048576) (hlk : LkOwn u (w.heap.size + 1) ai x.ls) (h4 : a.tmps.getD 4 undef = .pointer (some ⟨w.heap.size, 0, none⟩)) (h5 : a.tmps.getD 5 undef = .bool ok) (hd : a.defers = []) (hA : BlkAt u w.heap.size zG) (hb : Below w.heap.size w u) :
    bodyPost Tryz.prog Tryz.f18 (fun e w' => Is18 l key w w' e ∧ Below w.heap.size w w') .ret a (fill u w.heap.size 0 (x.c ai ci)) := by
  have FF := BlkAt.fill (B := w.heap.size) (x.c ai ci) [] zG [] 0 hA rfl rfl
  have hl := lkown_fill w.heap.size (x.c ai ci) (by omega) 0 hlk
  exact bodyPost_ret (v := .tuple #[.agg (x.c ai ci).toArray, .bool ok]) (results_blk2 Tryz.results18 _ _ w.heap.size _ _ _ h4 h5 FF Tryz.underlying41 rfl (by kernel_rfl)) hd ⟨⟨x, ok, ai, ci, rfl, hn, hz, hx, hl.mono (by omega)⟩, below_fill (Nat.le_refl _) _ 0 hb⟩
theorem fin18_no {w u : World} {a : Act} {l : List UInt8} {key : ByteArray} (hn : RM l key g16z false) (h4 : a.tmps.getD 4 undef = .pointer (some ⟨w.heap.size, 0, none⟩)) (h5 : a.tmps.getD 5 undef = .bool false) (hd : a.defers = []) (hA : BlkAt u w.heap.size zG) (hb : Below w.heap.size w u) :
    bodyPost Tryz.prog Tryz.f18 (fun e w' => Is18 l key w w' e ∧ Below w.heap.size w w') .ret a (fill u w.heap.size 0 zG) :=
  fin18 g16z none 0 false hn (fun _ => ⟨rfl, rfl, rfl⟩) g16z_le ⟨.inl rfl, .inl rfl⟩ h4 h5 hd hA hb
set_option maxHeartbeats 8000000 in
set_option maxRecDepth 100000 in
theorem c18 (s key : ByteArray) (w : World) (hs : s.size ≤ 1048576) (hk : key.size ≤ 1048576) (hmx : MaxAt w) :
    Calls Tryz.prog 18 #[.string s, .string key] w fun e w' => Is18 s.data.toList key w w' e ∧ Below w.heap.size w w' := by
  have hB0 : Below w.heap.size w (w.alloc (.cells zG.toArray 41)) := (Below.refl _ _).alloc (Nat.le_refl _) _
  have hsl : s.data.toList.length = s.size := by simp
  have hA := blk_new w zG 41
  have hO := opn_new w zG.toArray 41
  have hS := blk_some hA zG rfl
  have hd8 : s.extract 8 s.size = ofL (s.data.toList.drop 8) := ext_ofL (by rw [ext_list, List.take_of_length_le (by omega)])
  have ht8 : s.extract 0 8 = ofL (s.data.toList.take 8) := ext_ofL (by rw [ext_list, List.drop_zero])
  have hdl : (ofL (s.data.toList.drop 8)).size = s.size - 8 := by rw [ofL_size, List.length_drop, hsl]
  by_cases h8 : 8 ≤ s.size
  · by_cases h16 : s.size ≤ 16000
    · by_cases hk30 : key.size ≤ 30
      · have hd : decide (key.size ≤ 30) = true := by simpa using hk30
        have hTag : ((ofL (s.data.toList.take 8)).toList == (tagS (ofL (s.data.toList.drop 8)) key).toList) = decide (s.data.toList.take 8 = (tagS (ofL (s.data.toList.drop 8)) key).data.toList) := by
          rw [ByteArray.toList_eq, ByteArray.toList_eq, ofL_list]
          by_cases h : s.data.toList.take 8 = (tagS (ofL (s.data.toList.drop 8)) key).data.toList
          · rw [decide_eq_true h, h]; simp
          · rw [decide_eq_false h]; exact beq_eq_false_iff_ne.2 h
        go_enter Tryz.func18, Tryz.ntmps18
        go_wp2_with fail
        refine (c39 key _ hk).mono ?_
        rintro e w1 ⟨rfl, rfl⟩
        rw [hd]
        go_wp2_with fail
        go_region
        go_wp2_with fail
        refine (c41 (ofL (s.data.toList.drop 8)) key _ (by omega) hk).mono ?_
        rintro e w2 ⟨rfl, hb2⟩
        have hx2 : Below (w.heap.size + 1) (w.alloc (.cells zG.toArray 41)) w2 := by
          first | exact hb2.mono (by simp) | exact ((Below.refl _ _).drew).trans (hb2.mono (by simp))
        clear hb2
        have hA2 := hA.below hx2 (by omega)
        have hO2 := hO.below hx2 (by omega)
        have hS2 := blk_some hA2 zG rfl
        have hB2 : Below w.heap.size w w2 := hB0.trans (hx2.mono (by omega))
        have hm2 : MaxAt w2 := max_below hmx hB2
        have HMail := fun x ok (h : RdMail (s.data.toList.drop 8) x ok) (ht : s.data.toList.take 8 = (tagS (ofL (s.data.toList.drop 8)) key).data.toList) => rm_mail hk30 ht h
        have hmz : (ofL (s.data.toList.drop 8)).size ≤ 16000 := by omega
        by_cases ht : s.data.toList.take 8 = (tagS (ofL (s.data.toList.drop 8)) key).data.toList
        · have hq : ((ofL (s.data.toList.take 8)).toList == (tagS (ofL (s.data.toList.drop 8)) key).toList) = true := by rw [hTag]; exact decide_eq_true ht
          have hq2 : (ofL (s.data.toList.take 8)).toList = (tagS (ofL (s.data.toList.drop 8)) key).toList := by simpa using hq
          have hM := fun x ok h => HMail x ok h ht
          have h51 := fun u => c51 (ofL (s.data.toList.drop 8)) u hmz
          rw [ofL_list] at h51
          clear HMail hTag ht hd hd8 ht8 hdl hS hA hO
          generalize tagS (ofL (s.data.toList.drop 8)) key = tg at *
          generalize ofL (s.data.toList.take 8) = hd at *
          generalize ofL (s.data.toList.drop 8) = bd at *
          go_wp2_with fail
          refine (h51 _ hm2).mono ?_
          rintro e w3 ⟨⟨x, ok, ai, ci, rfl, hrd, hzz, hle, hlk⟩, hb3⟩
          have hx3 := hx2.trans (hb3.mono (by have h := hx2.size; simp at h; omega))
          have hA3 := hA2.below hb3 (by have h := hx2.size; simp at h; omega)
          have hO3 := hO2.below hb3 (by have h := hx2.size; simp at h; omega)
          have hB3 : Below w.heap.size w w3 := hB0.trans (hx3.mono (by omega))
          have HN : Hid (RM s.data.toList key x ok) := hM x ok hrd
          have hlk' : LkOwn w3 (w.heap.size + 1) ai x.ls := hlk.mono (by have h := hx2.size; simp at h; omega)
          clear hM hrd hb3 hlk h51
          go_wp2_with (refine wpList_store_blk rfl 41 (.tmp 4) (.tmp 34) rfl w.heap.size 0 rfl (x.c ai ci) rfl (blk_some hA3 _ rfl) hO3 (G16.c_one _ _ _) (by kernel_rfl) rfl ?_)
          exact fin18 x ai ci ok HN.out hzz hle hlk' rfl rfl rfl hA3 hB3
        · have hq : ((ofL (s.data.toList.take 8)).toList == (tagS (ofL (s.data.toList.drop 8)) key).toList) = false := by rw [hTag]; exact decide_eq_false ht
          have hq2 : ¬ (ofL (s.data.toList.take 8)).toList = (tagS (ofL (s.data.toList.drop 8)) key).toList := by simpa using hq
          have HN : Hid (RM s.data.toList key g16z false) := rm_tag _ ht
          clear HMail hTag ht hd hd8 ht8 hdl hS hA hO
          generalize tagS (ofL (s.data.toList.drop 8)) key = tg at *
          generalize ofL (s.data.toList.take 8) = hd at *
          generalize ofL (s.data.toList.drop 8) = bd at *
          go_wp2_with (refine wpList_store_blk rfl 41 (.tmp 4) (.tmp 31) rfl w.heap.size 0 rfl zG rfl hS2 hO2 (by simp [zG, Value.oneCell']) (by kernel_rfl) rfl ?_)
          exact fin18_no HN.out rfl rfl rfl hA2 hB2
      · have HN : Hid (RM s.data.toList key g16z false) := rm_no _ (by omega)
        have hd : decide (key.size ≤ 30) = false := by simpa using hk30
        go_enter Tryz.func18, Tryz.ntmps18
        go_wp2_with fail
        refine (c39 key _ hk).mono ?_
        rintro e w1 ⟨rfl, rfl⟩
        rw [hd]
        go_wp2_with (refine wpList_store_blk rfl 41 (.tmp 4) (.tmp 21) rfl w.heap.size 0 rfl zG rfl hS hO (by simp [zG, Value.oneCell']) (by kernel_rfl) rfl ?_)
        exact fin18_no HN.out rfl rfl rfl hA hB0
    · have HN : Hid (RM s.data.toList key g16z false) := rm_no _ (by omega)
      go_enter Tryz.func18, Tryz.ntmps18
      go_wp2_with (refine wpList_store_blk rfl 41 (.tmp 4) (.tmp 21) rfl w.heap.size 0 rfl zG rfl hS hO (by simp [zG, Value.oneCell']) (by kernel_rfl) rfl ?_)
      exact fin18_no HN.out rfl rfl rfl hA hB0
  · have HN : Hid (RM s.data.toList key g16z false) := rm_no _ (by omega)
    go_enter Tryz.func18, Tryz.ntmps18
    go_wp2_with (refine wpList_store_blk rfl 41 (.tmp 4) (.tmp 21) rfl w.heap.size 0 rfl zG rfl hS hO (by simp [zG, Value.oneCell']) (by kernel_rfl) rfl ?_)
    exact fin18_no HN.out rfl rfl rfl hA hB0
end Go.Proofs.YtdcgjdgpiogdaaaGreatDoor
namespace Go.Proofs.YtdcgjdgpiogdaaaGreatDoor
open Go.RowKit
set_option maxHeartbeats 2000000 in
set_option maxRecDepth 100000 in
theorem c45o (s : ByteArray) (b : UInt8) (w : World) (hs : s.size ≤ 1048700) :
    Calls Tryz.prog 45 #[.string s, .int .u8 b.toNat] w fun e w' => (∃ g cp, e = .returned (.slice (some ⟨g, 0, none⟩) (cutS b s.data.toList).length cp) ∧ w'.ownsRow w.heap.size 9 1 (.slice (some ⟨g, 0, none⟩) (cutS b s.data.toList).length cp) (cutS b s.data.toList).length (strL (cutS b s.data.toList))) ∧ Below w.heap.size w w' := by
  obtain ⟨i0, hi, hz0, hz1, hz2⟩ := info_parts info9
  have hlen : s.data.toList.length = s.size := by simp
  go_enter Tryz.func45, Tryz.ntmps45
  go_wp2_with fail
  go_loopw [5, 6, 7] (fun v fr i wr => ∃ (k f : Nat), k ≤ s.size ∧ f ≤ k ∧ i = .int .i64 k ∧ fr = .int .i64 f ∧ wr.ownsRow w.heap.size 9 1 v (cstate b (s.data.toList.take k)).1.length (strL (cstate b (s.data.toList.take k)).1) ∧ Hid ((s.data.toList.take k).drop f = (cstate b (s.data.toList.take k)).2) ∧ Below w.heap.size w wr ∧ w.heap.size + 1 ≤ wr.heap.size) (fun _ _ i _ => s.size - (intOf i).toNat)
  case atStart => exact ⟨0, 0, Nat.zero_le _, Nat.le_refl _, rfl, rfl, World.ownsRow_lit _ #[] 0 (Nat.le_refl _) (Nat.zero_le _) rfl, rfl, (Below.refl _ _).alloc (Nat.le_refl _) _, by simp⟩
  case round =>
    obtain ⟨k, f, hk, hf, rfl, rfl, hown, hcur, hb, hz⟩ := hrel
    have hL : (cstate b (s.data.toList.take k)).1.length ≤ k := by
      have := cstate_le b (s.data.toList.take k)
      rw [List.length_take] at this; omega
    by_cases hlt : k < s.size
    · have HS : Hid (cstate b (s.data.toList.take (k + 1)) = cst b (cstate b (s.data.toList.take k)) s[k]) := by rw [take_snoc s k hlt, cstate_snoc]; rfl
      have HE : Hid (s.extract f k = ofL (cstate b (s.data.toList.take k)).2) := ext_ofL (by rw [ext_listF]; exact hcur.out)
      by_cases hc : s[k] = b
      · have e1 : ((s[k].toNat : Int) == (b.toNat : Int)) = true := by rw [hc]; simp
        have HC : Hid (cst b (cstate b (s.data.toList.take k)) s[k] = ((cstate b (s.data.toList.take k)).1 ++ [(cstate b (s.data.toList.take k)).2], [])) := by unfold cst; rw [if_pos hc]; rfl
        have HD : Hid ((s.data.toList.take (k + 1)).drop (k + 1) = []) := List.drop_of_length_le (by simp; omega)
        clear hc hcur
        generalize cstate b (s.data.toList.take k) = st at *
        go_wp2_with (at_builtin; refine wpList_append_own _ rfl _ _ 80 rfl w.heap.size 9 i0 (.string ⟨#[]⟩) 1 16 Tryz.underlying80 hi hz0 hz1 hz2 rfl (by decide) _ _ _ rfl (hown.alloc _) ⟨wr.heap.size, 0, none⟩ 1 1 [_] rfl rfl (cell_one_new _ _ _) (by intro u hu; simp at hu; subst hu; rfl) (by unfold maxLen; omega) (by omega) (by simp; omega) ?_; intro v' w2 hown' hgrow _)
        go_roundw
        case rel =>
          have hB2 : Below w.heap.size w w2 := (hb.alloc hb.size _).grown hgrow (by simp; omega) (fun j hj => (hown.lt j hj).1)
          refine ⟨k + 1, k + 1, by omega, Nat.le_refl _, by go_num, by go_num, ?_, ?_, hB2, by have := hgrow.size; simp at this; omega⟩
          · rw [HS.out, HC.out, List.length_append, strL_snoc, ← HE.out]
            exact hown'
          · rw [HS.out, HC.out]; exact HD.out
        case measure => simp [intOf]; omega
      · have e1 : ((s[k].toNat : Int) == (b.toNat : Int)) = false := by
          simp only [beq_eq_false_iff_ne]
          intro e
          exact hc (UInt8.toNat_inj.1 (by omega))
        have HC : Hid (cst b (cstate b (s.data.toList.take k)) s[k] = ((cstate b (s.data.toList.take k)).1, (cstate b (s.data.toList.take k)).2 ++ [s[k]])) := by unfold cst; rw [if_neg hc]; rfl
        have HD : Hid ((s.data.toList.take (k + 1)).drop f = (s.data.toList.take k).drop f ++ [s[k]]) := by rw [take_snoc s k hlt, List.drop_append_of_le_length (by simp; omega)]; rfl
        clear hc
        generalize cstate b (s.data.toList.take k) = st at *
        go_wp2
        go_roundw
        case rel =>
          refine ⟨k + 1, f, by omega, by omega, by go_num, rfl, ?_, ?_, hb, hz⟩
          · rw [HS.out, HC.out]; exact hown
          · rw [HS.out, HC.out, HD.out, hcur.out]; rfl
        case measure => simp [intOf]; omega
    · have HK : Hid (s.data.toList.take k = s.data.toList) := List.take_of_length_le (by omega)
      have HE : Hid (s.extract f s.size = ofL (cstate b (s.data.toList.take k)).2) := ext_ofL (by rw [ext_listF, ← show k = s.size by omega]; exact hcur.out)
      have HCU : Hid (cutS b s.data.toList = (cstate b (s.data.toList.take k)).1 ++ [(cstate b (s.data.toList.take k)).2]) := by rw [HK.out]; rfl
      clear hcur
      generalize cstate b (s.data.toList.take k) = st at *
      go_wp2_with (at_builtin; refine wpList_append_own _ rfl _ _ 80 rfl w.heap.size 9 i0 (.string ⟨#[]⟩) 1 16 Tryz.underlying80 hi hz0 hz1 hz2 rfl (by decide) _ _ _ rfl (hown.alloc _) ⟨wr.heap.size, 0, none⟩ 1 1 [_] rfl rfl (cell_one_new _ _ _) (by intro u hu; simp at hu; subst hu; rfl) (by unfold maxLen; omega) (by omega) (by simp; omega) ?_; intro v' w2 hown' hgrow _; obtain ⟨g, cp, hvv⟩ := own_formF hown' (by omega); subst hvv)
      go_ret
      have hB2 : Below w.heap.size w w2 := (hb.alloc hb.size _).grown hgrow (by simp; omega) (fun j hj => (hown.lt j hj).1)
      have ho2 : w2.ownsRow w.heap.size 9 1 (.slice (some ⟨g, 0, none⟩) (st.1.length + 1) cp) (st.1.length + 1) (strL (cutS b s.data.toList)) := by
        rw [HCU.out, strL_snoc, ← HE.out]; exact hown'
      have hlc : (cutS b s.data.toList).length = st.1.length + 1 := by rw [HCU.out]; simp
      exact ⟨⟨g, cp, by rw [hlc]; rfl, by rw [hlc]; exact ho2⟩, hB2⟩
end Go.Proofs.YtdcgjdgpiogdaaaGreatDoor
