import Derived.Test.YtdcgjdgpiogdaaaGreatDoorG41
import Derived.Deep.RegionHeld3
namespace Go.Proofs.YtdcgjdgpiogdaaaGreatDoor
open Go.RowKit
/-- What a text is read as, with a key, and that it is nothing else. -/
def RMS (l : List UInt8) (key : ByteArray) (x : G16) (ok : Bool) : Prop := (ok = true → Fm x key ∧ fmL x key = l ∧ ∀ y, Fm y key → fmL y key = l → x = y) ∧ (ok = false → ∀ y, Fm y key → fmL y key ≠ l)
def Is17 (l : List UInt8) (key : ByteArray) (w' : World) (e : Ending) : Prop := ∃ (x : G16) (ok : Bool) (ai : Option Addr) (ci : Nat), e = .returned (.tuple #[.agg (x.c ai ci).toArray, .bool ok]) ∧ RMS l key x ok ∧ (ok = false → x = g16z ∧ ai = none ∧ ci = 0) ∧ x.le 1048576 ∧ LksAt w' ai x.ls
/-- What the lines behind the tag are read as, loosely. -/
def LsM (l : List UInt8) (x : G16) : Prop := ∀ y, MsgOk y → l.drop 8 = msgL y → x = y
theorem rms_yes {l : List UInt8} {key str : ByteArray} {x : G16} (hx : LsM l x) (hT : (Fm x key ∧ str = ofL (fmL x key)) ∨ (¬ Fm x key ∧ str = ⟨#[]⟩)) (hl : 9 ≤ l.length) (he : str.data.toList = l) : RMS l key x true := by
  refine ⟨fun _ => ?_, (fun h => by cases h)⟩
  rcases hT with ⟨h1, h2⟩ | ⟨h1, h2⟩
  · refine ⟨h1, ?_, fun y hy e => ?_⟩
    · rw [← he, h2]; rfl
    · exact hx y hy.1 (fm_parts hy e).2.2.2.1
  · rw [h2] at he
    rw [← he] at hl
    cases hl
theorem rms_no {l : List UInt8} {key str : ByteArray} {x : G16} (hx : LsM l x) (hT : (Fm x key ∧ str = ofL (fmL x key)) ∨ (¬ Fm x key ∧ str = ⟨#[]⟩)) (he : str.data.toList ≠ l) : RMS l key g16z false := by
  refine ⟨(fun h => by cases h), fun _ y hy e => ?_⟩
  have := hx y hy.1 (fm_parts hy e).2.2.2.1
  subst this
  rcases hT with ⟨h1, h2⟩ | ⟨h1, h2⟩
  · apply he; rw [h2]; exact e
  · exact h1 hy
theorem rms_short {l : List UInt8} {key : ByteArray} (h : l.length < 9 ∨ 16000 < l.length) : RMS l key g16z false := by
  refine ⟨(fun h => by cases h), fun _ y hy e => ?_⟩
  have := fm_parts hy e
  omega
theorem fin17 {w u : World} {a : Act} {l : List UInt8} {key : ByteArray} (x : G16) (ai : Option Addr) (ci : Nat) (ok : Bool) (hn : RMS l key x ok) (hz : ok = false → x = g16z ∧ ai = none ∧ ci = 0) (hx : x.le 1048576) (hlk : LksAt (fill u w.heap.size 0 (x.c ai ci)) ai x.ls) (h4 : a.tmps.getD 4 undef = .pointer (some ⟨w.heap.size, 0, none⟩)) (h5 : a.tmps.getD 5 undef = .bool ok) (hd : a.defers = []) (hA : BlkAt u w.heap.size zG) (hb : Below w.heap.size w u) :
    bodyPost Tryz.prog Tryz.f17 (fun e w' => Is17 l key w' e ∧ Below w.heap.size w w') .ret a (fill u w.heap.size 0 (x.c ai ci)) := by
  have FF := BlkAt.fill (B := w.heap.size) (x.c ai ci) [] zG [] 0 hA rfl rfl
  exact bodyPost_ret (v := .tuple #[.agg (x.c ai ci).toArray, .bool ok]) (results_blk2 Tryz.results17 _ _ w.heap.size _ _ _ h4 h5 FF Tryz.underlying41 rfl (by kernel_rfl)) hd ⟨⟨x, ok, ai, ci, rfl, hn, hz, hx, hlk⟩, below_fill (Nat.le_refl _) _ 0 hb⟩
theorem fin17_no {w u : World} {a : Act} {l : List UInt8} {key : ByteArray} (hn : RMS l key g16z false) (h4 : a.tmps.getD 4 undef = .pointer (some ⟨w.heap.size, 0, none⟩)) (h5 : a.tmps.getD 5 undef = .bool false) (hd : a.defers = []) (hA : BlkAt u w.heap.size zG) (hb : Below w.heap.size w u) :
    bodyPost Tryz.prog Tryz.f17 (fun e w' => Is17 l key w' e ∧ Below w.heap.size w w') .ret a (fill u w.heap.size 0 zG) :=
  fin17 g16z none 0 false hn (fun _ => ⟨rfl, rfl, rfl⟩) g16z_le (.inl rfl) h4 h5 hd hA hb
theorem lks_filo {u : World} {B : Nat} (vs : List Value) {ai : Option Addr} {is : List L4} (h : LksAt u ai is) (hb : ∀ g o, ai = some ⟨g, o, none⟩ → g ≠ B) : LksAt (fill u B 0 vs) ai is := by
  rcases h with h | ⟨b, off, h1, h2, h3⟩
  · exact .inl h
  · refine .inr ⟨b, off, h1, by rw [size_fill]; exact h2, fun i hi => ?_⟩
    have hne := hb b off h1
    rw [cell_fill _ _ _ hne, cell_fill _ _ _ hne, cell_fill _ _ _ hne, cell_fill _ _ _ hne]
    exact h3 i hi
theorem c13v (x : G16) (key : ByteArray) (ai : Option Addr) (ci : Nat) (w : World) (hs : x.le 1048576) (hat : LksAt w ai x.ls) (hk : key.size ≤ 1048576) :
    Calls Tryz.prog 13 #[.agg (x.c ai ci).toArray, .string key] w fun e w' => IsT (Fm x key) (fmL x key) e ∧ Below w.heap.size w w' := c13 x key ai ci w hs hat hk
/-- The lines of a form behind its tag. -/
theorem body_lines {body : List UInt8} {y : G16} (hy : MsgOk y) (e : body = msgL y) : cutS 10 body = linesP y ++ [[]] := by
  rw [e, msg_lines hy]; exact cut_join _ (lines_no hy)
theorem body_first {body : List UInt8} {y : G16} (hy : MsgOk y) (e : body = msgL y) : (cutS 10 body).getD 0 [] = wrdP y.kd ++ 32 :: fstP y := by
  rw [body_lines hy e]; rfl
theorem body_word {body : List UInt8} {y : G16} (hy : MsgOk y) (e : body = msgL y) : wordOf ((cutS 10 body).getD 0 []) = wrdP y.kd ∧ restOf ((cutS 10 body).getD 0 []) = fstP y := by
  rw [body_first hy e]; exact word_split (wrdP_no _)
theorem lsM_none {l : List UInt8} (x : G16) (h : ∀ k, k = 1 ∨ k = 2 ∨ k = 3 → wordOf ((cutS 10 (l.drop 8)).getD 0 []) ≠ wrdP k) : LsM l x := fun _ hy e => absurd (body_word hy e).1 (h _ (kd_of hy))
theorem lsM_kind {l : List UInt8} {k : Int} {x : G16} (hk : k = 1 ∨ k = 2 ∨ k = 3) (hw : wordOf ((cutS 10 (l.drop 8)).getD 0 []) = wrdP k) (h : ∀ y, MsgOk y → y.kd = k → restOf ((cutS 10 (l.drop 8)).getD 0 []) = fstP y → cutS 10 (l.drop 8) = linesP y ++ [[]] → x = y) : LsM l x := fun y hy e => by
  obtain ⟨w1, w2⟩ := body_word hy e
  exact h y hy (wrdP_inj (kd_of hy) hk (by rw [← w1, hw])) w2 (body_lines hy e)
theorem rest_chain {F a r : List UInt8} {k : Nat} (h : restN F k = a ++ 32 :: r) (ha : (32 : UInt8) ∉ a) : wordOf (restN F k) = a ∧ restN F (k + 1) = r := by
  have := word_split (r := r) ha
  rw [← h] at this
  exact this
theorem lsM_here {l F : List UInt8} (hF : (cutS 10 (l.drop 8)).getD 0 [] = F) (hw : wordOf F = wrdP 3) : LsM l (hereG (n29 (wordOf (restN F 1)))) := by
  subst hF
  refine lsM_kind (by decide) hw fun y hy hk h1 _ => ?_
  obtain ⟨a, b⟩ := here_is hy hk
  generalize (cutS 10 (l.drop 8)).getD 0 [] = F at *
  have e : restN F 1 = dec y.fr := by
    have : restN F 1 = fstP y := h1
    rw [this, (here_fst hk).1]
  have := a.2
  rw [e, (word_none (dec_no (by omega)).1).1, n29_back (by omega) (by omega)]
  exact b.symm
theorem lsM_turn {l F G : List UInt8} {t : T6} (hF : (cutS 10 (l.drop 8)).getD 0 [] = F) (hG : (cutS 10 (l.drop 8) ++ [[]]).getD 1 [] = G) (hw : wordOf F = wrdP 2) (ht : ∀ y : T6, TnW y → G = tnL y → ∃ s, y = ⟨t.over, t.cd, t.tx, t.has, t.nm, s⟩) :
    LsM l (turnG (n29 (wordOf (restN F 1))) (n29 (wordOf (restN F 2))) (n29 (wordOf (restN F 3))) (ofL (wordOf (restN F 4))) (n29 (wordOf (restN F 5))) (n29 (restN F 6)) t) := by
  subst hF
  refine lsM_kind (by decide) hw fun y hy hk h1 h2 => ?_
  obtain ⟨a, b⟩ := turn_is hy hk
  obtain ⟨_, q1, q2, q3, q4, q5, q6⟩ := a
  have m := mom_le q2
  obtain ⟨s, hs⟩ := ht y.tn ⟨q5, q6⟩ (by rw [← hG, h2]; unfold linesP; rw [(turn_fst hk).2]; rfl)
  generalize (cutS 10 (l.drop 8)).getD 0 [] = F at *
  have r1 : restN F 1 = fstP y := h1
  rw [(turn_fst hk).1] at r1
  obtain ⟨w1, r2⟩ := rest_chain r1 (dec_no (by omega)).1
  obtain ⟨w2, r3⟩ := rest_chain r2 (dec_no (by omega)).1
  obtain ⟨w3, r4⟩ := rest_chain r3 (dec_no (by omega)).1
  obtain ⟨w4, r5⟩ := rest_chain r4 (name_no q3).1
  obtain ⟨w5, r6⟩ := rest_chain r5 (dec_no (by omega)).1
  rw [w1, w2, w3, w4, w5, r6, n29_back (n := y.fr) (by omega) (by omega), n29_back (n := y.ep) (by omega) (by omega), n29_back (n := y.ed) (by omega) (by omega), n29_back (n := y.ct) (by omega) (by omega), n29_back (n := y.tn.st) (by omega) (by omega)]
  rw [b]
  rw [hs]
  rfl
/-- The looks read loosely so far. -/
def LkSo (Ls : List (List UInt8)) (k : Nat) (xs : List L4) : Prop := ∀ ys : List L4, (∀ i, i < ys.length → LkOk (ys.getD i l4z)) → Ls.drop 1 = ys.map lookB ++ [[], []] → xs = ys.take (k - 1)
theorem lkSo_start (Ls : List (List UInt8)) : LkSo Ls 1 [] := fun ys _ _ => by simp
theorem lkSo_step {Ls : List (List UInt8)} {k : Nat} {xs : List L4} {x : L4} {ok : Bool} (h : LkSo Ls k xs) (hk1 : 1 ≤ k) (hk : k < Ls.length) (hx : LsLook (Ls.getD k []) x ok) : LkSo Ls (k + 1) (if ok = true then xs ++ [x] else xs) := by
  intro ys hy e
  have hxs := h ys hy e
  have hg : Ls.getD k [] = (ys.map lookB ++ [[], []]).getD (k - 1) [] := by
    rw [← e]
    simp only [List.getD_eq_getElem?_getD, List.getElem?_drop]
    congr 2
    omega
  have hlen : Ls.length = ys.length + 3 := by
    have := congrArg List.length e
    simp at this; omega
  rcases Nat.lt_or_ge (k - 1) ys.length with hl | hl
  · have e1 : Ls.getD k [] = lookB (ys.getD (k - 1) l4z) := by
      rw [hg, List.getD_eq_getElem?_getD, List.getElem?_append_left (by simpa using hl)]
      simp [hl]
    obtain ⟨h1, h2⟩ := hx.1 _ (hy _ hl) e1
    rw [if_pos h1, h2, hxs, show k + 1 - 1 = (k - 1) + 1 by omega, List.take_succ_eq_append_getElem hl]
    simp [hl]
  · have e1 : Ls.getD k [] = [] := by
      rw [hg, List.getD_eq_getElem?_getD, List.getElem?_append_right (by simpa using hl)]
      simp only [List.length_map]
      have : k - 1 - ys.length = 0 ∨ k - 1 - ys.length = 1 := by omega
      rcases this with h | h <;> rw [h] <;> rfl
    have h1 := hx.2 e1
    rw [if_neg (by rw [h1]; decide), hxs, List.take_of_length_le (by omega), List.take_of_length_le (by omega)]
theorem lsM_offer {l F t : List UInt8} {xs : List L4} (hF : (cutS 10 (l.drop 8)).getD 0 [] = F) (hw : wordOf F = wrdP 1) (ht : ∀ q, restN F 6 = quoteL q → t = q) (hl : LkSo (cutS 10 (l.drop 8) ++ [[]]) ((cutS 10 (l.drop 8)).length + 1) xs) :
    LsM l (offerG (n29 (wordOf (restN F 1))) (n29 (wordOf (restN F 2))) (n29 (wordOf (restN F 3))) ⟨ofL (wordOf (restN F 4)), ofL (wordOf (restN F 5)), ofL t⟩ xs) := by
  subst hF
  refine lsM_kind (by decide) hw fun y hy hk h1 h2 => ?_
  obtain ⟨a, b⟩ := offer_is hy hk
  obtain ⟨_, q1, q2, q3, q4⟩ := a
  have m := mom_le q2
  obtain ⟨n1, n2, _⟩ := okM_facts q3
  have hxs : xs = y.ls := by
    have := hl y.ls q4.2 (by rw [h2]; unfold linesP; rw [(offer_fst hk).2]; simp)
    rw [this, h2]
    unfold linesP
    rw [(offer_fst hk).2]
    refine List.take_of_length_le ?_
    simp
  generalize (cutS 10 (l.drop 8)).getD 0 [] = F at *
  have r1 : restN F 1 = fstP y := h1
  rw [(offer_fst hk).1, body_form] at r1
  obtain ⟨w1, r2⟩ := rest_chain r1 (dec_no (by omega)).1
  obtain ⟨w2, r3⟩ := rest_chain r2 (dec_no (by omega)).1
  obtain ⟨w3, r4⟩ := rest_chain r3 (dec_no (by omega)).1
  obtain ⟨w4, r5⟩ := rest_chain r4 (name_no n1).1
  obtain ⟨w5, r6⟩ := rest_chain r5 (name_no n2).1
  have htq := ht _ r6
  rw [w1, w2, w3, w4, w5, htq, hxs, n29_back (n := y.to) (by omega) (by omega), n29_back (n := y.ep) (by omega) (by omega), n29_back (n := y.ed) (by omega) (by omega)]
  exact b.symm
end Go.Proofs.YtdcgjdgpiogdaaaGreatDoor
namespace Go.Proofs.YtdcgjdgpiogdaaaGreatDoor
open Go.RowKit
set_option maxHeartbeats 16000000 in
set_option maxRecDepth 100000 in
theorem c17_none (s key : ByteArray) (w : World) (h9 : 9 ≤ s.size) (h16 : s.size ≤ 16000) (hk : key.size ≤ 1048576) (hw : ∀ k : Int, k = 1 ∨ k = 2 ∨ k = 3 → wordOf ((cutS 10 (s.data.toList.drop 8)).getD 0 []) ≠ wrdP k) :
    Calls Tryz.prog 17 #[.string s, .string key] w fun e w' => Is17 s.data.toList key w' e ∧ Below w.heap.size w w' := by
  have hB0 : Below w.heap.size w (w.alloc (.cells zG.toArray 41)) := (Below.refl _ _).alloc (Nat.le_refl _) _
  have hsl : s.data.toList.length = s.size := by simp
  have HSL : Hid (9 ≤ s.data.toList.length) := by rw [hsl]; exact h9
  have hd8 : s.extract 8 s.size = ofL (s.data.toList.drop 8) := ext_ofL (by rw [ext_list, List.take_of_length_le (by omega)])
  have hdl : (ofL (s.data.toList.drop 8)).size = s.size - 8 := by rw [ofL_size, List.length_drop, hsl]
  have hld : (s.data.toList.drop 8).length ≤ 16000 := by rw [List.length_drop]; omega
  obtain ⟨i0, hi, hz0, hz1, hz2⟩ := info_parts info9
  have h9' : decide ((s.size : Int) < 9) = false := by simp; omega
  have h16' : decide (16000 < (s.size : Int)) = false := by simp; omega
  go_enter Tryz.func17, Tryz.ntmps17
  go_wp2_with fail
  refine (c45o (ofL (s.data.toList.drop 8)) 10 _ (by omega)).mono ?_
  rintro e w1 ⟨⟨g, cp, rfl, hown⟩, hb1⟩
  rw [ofL_list] at hown ⊢
  have hz1w : (w.alloc (.cells zG.toArray 41)).heap.size = w.heap.size + 1 := by simp
  have hown1 : w1.ownsRow (w.heap.size + 1) 9 1 (.slice (some ⟨g, 0, none⟩) (cutS 10 (s.data.toList.drop 8)).length cp) (cutS 10 (s.data.toList.drop 8)).length (strL (cutS 10 (s.data.toList.drop 8))) := by rw [← hz1w]; exact hown
  have hx1 : Below (w.heap.size + 1) (w.alloc (.cells zG.toArray 41)) w1 := hb1.mono (by simp)
  have hcl := cut_len 10 (s.data.toList.drop 8)
  have hcs := cut_small 10 (s.data.toList.drop 8)
  have hz1' : w.heap.size + 1 ≤ w1.heap.size := by have h := hx1.size; rw [hz1w] at h; exact h
  clear hown hb1 hd8 hdl
  obtain ⟨Ls, hLs⟩ : ∃ Ls, Ls = cutS 10 (s.data.toList.drop 8) := ⟨_, rfl⟩
  rw [← hLs] at hown1 hcl hcs hw ⊢
  have HLS : Hid (cutS 10 (s.data.toList.drop 8) = Ls) := hLs.symm
  have HCS : Hid (∀ k, (Ls.getD k []).length ≤ 16000) := fun k => Nat.le_trans (hcs k) hld
  obtain ⟨F, hF⟩ : ∃ F, F = Ls.getD 0 [] := ⟨_, rfl⟩
  have HF : Hid (Ls.getD 0 [] = F) := hF.symm
  have hFl : F.length ≤ 16000 := by rw [hF]; exact HCS.out 0
  rw [← hF] at hw
  clear hF hLs hcs
  have hcl1 : 1 ≤ Ls.length := hcl.1
  have hcl2 : Ls.length ≤ 16001 := by have := hcl.2; omega
  clear hcl hld
  generalize ofL (s.data.toList.drop 8) = bd at *
  go_wp2_with (at_builtin; refine wpList_append_own _ rfl _ _ 80 rfl (w.heap.size + 1) 9 i0 (.string ⟨#[]⟩) 1 16 Tryz.underlying80 hi hz0 hz1 hz2 rfl (by decide) _ _ _ rfl (hown1.alloc _) ⟨w1.heap.size, 0, none⟩ 1 1 [_] rfl rfl (cell_one_new _ _ _) (by intro u hu; simp at hu; subst hu; rfl) (by unfold maxLen; omega) (by omega) (by simp; omega) ?_; intro v' w2 hown2 hgrow _; have hx2 : Below (w.heap.size + 1) (w.alloc (.cells zG.toArray 41)) w2 := (hx1.alloc (by omega) _).grown hgrow (by simp; omega) (fun j hj => (hown1.lt j hj).1); have hz2w : w1.heap.size < w2.heap.size := (by have := hgrow.size; simp at this; omega); clear hgrow hown1; obtain ⟨g2, cp2, hvv⟩ := own_formF hown2 (by omega); subst hvv; have hl2 : LinesAt w2 g2 (Ls ++ [[]]) := lines_of_owns (by rw [strL_snoc]; exact hown2) (by simp); have c0 : w2.cell? ⟨g2, 0, none⟩ = some (.string (ofL F)) := (hl2.2 0 (by simp)).trans (by rw [← HF.out]; cases Ls with | nil => simp at hcl1 | cons a r => rfl); have c0a := past (p := ⟨g2, 0, none⟩) hl2.1 c0; have HG2 : Hid (w.heap.size + 1 ≤ g2 ∧ g2 < w2.heap.size) := (hown2.lt g2 rfl); have HL2 : Hid (LinesAt w2 g2 (Ls ++ [[]])) := hl2; clear hl2 hown2)
  refine (c46o F _ (by omega) 6 (by omega) (by omega)).mono ?_
  rintro e w3 ⟨⟨g3, cp3, rfl, hg3, hl3⟩, hb3⟩
  have hz2a : (w2.alloc (.cells #[.int .i64 0, .int .i64 0, .int .i64 0, .int .i64 0, .int .i64 0, .string ⟨#[]⟩, .string ⟨#[]⟩, .string ⟨#[]⟩, .slice none 0 0, .int .i64 0, .bool false, .int .i64 0, .string ⟨#[]⟩, .bool false, .string ⟨#[]⟩, .int .i64 0] 41)).heap.size = w2.heap.size + 1 := by simp
  have hz23 : w2.heap.size + 1 ≤ w3.heap.size := by have h := hb3.size; rw [hz2a] at h; exact h
  have hb23 : Below w2.heap.size w2 w3 := ((Below.refl _ _).alloc (Nat.le_refl _) _).trans (hb3.mono (by rw [hz2a]; omega))
  have hx3 : Below (w.heap.size + 1) (w.alloc (.cells zG.toArray 41)) w3 := hx2.trans (hb23.mono (by omega))
  obtain ⟨bR, oR⟩ := blk_keep (vs := zG) hx3
  have bM : BlkAt w3 w2.heap.size zG := BlkAt.below (blk_new w2 zG 41) hb3 (by rw [hz2a]; omega)
  have oM : OpnAt w3 w2.heap.size := OpnAt.below (opn_new w2 _ 41) hb3 (by rw [hz2a]; omega)
  have hL3 : Hid (LinesAt w3 g2 (Ls ++ [[]])) := lines_below HL2.out hb23
  have hB3 : Below w.heap.size w w3 := hB0.trans (hx3.mono (by omega))
  have hg3a : w2.heap.size < g3 := by rw [hz2a] at hg3; omega
  have hg3b : g3 < w3.heap.size := hl3.1
  have hg2a : w.heap.size < g2 ∧ g2 < w2.heap.size := ⟨by have := HG2.out.1; omega, HG2.out.2⟩
  have d0 : w3.cell? ⟨g3, 0, none⟩ = some (.string (ofL (wordOf (restN F 0)))) := hl3.2 0 (by simp [wordsN])
  have d1 : w3.cell? ⟨g3, 1, none⟩ = some (.string (ofL (wordOf (restN F 1)))) := hl3.2 1 (by simp [wordsN])
  have d2 : w3.cell? ⟨g3, 2, none⟩ = some (.string (ofL (wordOf (restN F 2)))) := hl3.2 2 (by simp [wordsN])
  have d3 : w3.cell? ⟨g3, 3, none⟩ = some (.string (ofL (wordOf (restN F 3)))) := hl3.2 3 (by simp [wordsN])
  have d4 : w3.cell? ⟨g3, 4, none⟩ = some (.string (ofL (wordOf (restN F 4)))) := hl3.2 4 (by simp [wordsN])
  have d5 : w3.cell? ⟨g3, 5, none⟩ = some (.string (ofL (wordOf (restN F 5)))) := hl3.2 5 (by simp [wordsN])
  have hRB : w.heap.size < w2.heap.size := by omega
  have hMz : w2.heap.size < w3.heap.size := by omega
  have hrl := restN_len F
  clear HL2 hl3 hg3 hb3 hb23 hx2 hx3 hx1 HG2 hz2a c0 c0a hz2w hz1' hz1w hz23
  generalize w2.heap.size = Bm at *
  have HX : Hid (LsM s.data.toList g16z) := lsM_none _ (fun k hk' => by rw [HLS.out, HF.out]; exact hw k hk')
  have n1 : ((ofL (wordOf (restN F 0))).toList == [111, 102, 102, 101, 114]) = false := by
    rw [ByteArray.toList_eq, ofL_list]; exact beq_eq_false_iff_ne.2 (hw 1 (by decide))
  have n2 : ((ofL (wordOf (restN F 0))).toList == [116, 117, 114, 110]) = false := by
    rw [ByteArray.toList_eq, ofL_list]; exact beq_eq_false_iff_ne.2 (hw 2 (by decide))
  have n3 : ((ofL (wordOf (restN F 0))).toList == [104, 101, 114, 101]) = false := by
    rw [ByteArray.toList_eq, ofL_list]; exact beq_eq_false_iff_ne.2 (hw 3 (by decide))
  have m1 : ¬ (ofL (wordOf (restN F 0))).toList = [111, 102, 102, 101, 114] := by simpa using n1
  have m2 : ¬ (ofL (wordOf (restN F 0))).toList = [116, 117, 114, 110] := by simpa using n2
  have m3 : ¬ (ofL (wordOf (restN F 0))).toList = [104, 101, 114, 101] := by simpa using n3
  clear hw
  have HM : BlkAt w3 Bm (g16z.c none 0) := bM
  have HR := bR
  have HO := oR
  have hBU := hB3
  have hMU := hMz
  have hRU : w.heap.size < w3.heap.size := by omega
  have HLK : LksAt w3 none g16z.ls := .inl rfl
  have hle := g16z_le
  have hAne : ∀ g o, (none : Option Addr) = some ⟨g, o, none⟩ → g ≠ w.heap.size := fun _ _ h => by cases h
  generalize ofL (wordOf (restN F 0)) = wd at *
  go_wp2_with (refine wpList_load_blk rfl 41 (.tmp 7) rfl Bm rfl ((g16z).c none 0) _ HM Tryz.underlying41 rfl (by kernel_rfl) ?_)
  refine (c13v (g16z) key none 0 _ hle HLK hk).mono ?_
  rintro e U1 ⟨⟨str, rfl, hT⟩, hbU⟩
  have HM1 := BlkAt.below HM hbU hMU
  have HR1 := BlkAt.below HR hbU hRU
  have HO1 := OpnAt.below HO hbU hRU
  have hB1 : Below w.heap.size w U1 := hBU.trans (hbU.mono hBU.size)
  have HLK1 := lks_below HLK hbU
  clear HM HR HO HLK hBU hbU
  by_cases he : str.data.toList = s.data.toList
  · have HN : Hid (RMS s.data.toList key (g16z) true) := rms_yes HX.out hT HSL.out he
    have e2 : str.toList = s.toList := by rw [ByteArray.toList_eq, ByteArray.toList_eq]; exact he
    have e1 : (str.toList == s.toList) = true := by simpa using e2
    clear hT HX he
    go_wp2_with (first | refine wpList_load_blk rfl 41 (.tmp 7) rfl Bm rfl ((g16z).c none 0) _ HM1 Tryz.underlying41 rfl (by kernel_rfl) ?_ | refine wpList_store_blk rfl 41 (.tmp 4) (.tmp 151) rfl w.heap.size 0 rfl ((g16z).c none 0) rfl (blk_some HR1 _ rfl) HO1 (G16.c_one _ _ _) (by kernel_rfl) rfl ?_)
    exact fin17 (g16z) none 0 true HN.out (fun h => by cases h) hle (lks_filo _ HLK1 hAne) rfl rfl rfl HR1 hB1
  · have HN : Hid (RMS s.data.toList key g16z false) := rms_no HX.out hT he
    have e2 : ¬ str.toList = s.toList := by rw [ByteArray.toList_eq, ByteArray.toList_eq]; exact he
    have e1 : (str.toList == s.toList) = false := by simpa using e2
    clear hT HX he
    go_wp2_with (refine wpList_store_blk rfl 41 (.tmp 4) (.tmp 150) rfl w.heap.size 0 rfl zG rfl (blk_some HR1 zG rfl) HO1 (by simp [zG, Value.oneCell']) (by kernel_rfl) rfl ?_)
    exact fin17_no HN.out rfl rfl rfl HR1 hB1
end Go.Proofs.YtdcgjdgpiogdaaaGreatDoor
