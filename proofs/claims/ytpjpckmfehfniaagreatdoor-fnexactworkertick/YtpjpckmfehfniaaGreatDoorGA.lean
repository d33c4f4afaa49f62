import Derived.Test.YtpjpckmfehfniaaGreatDoorZC43
import Derived.Test.YtpjpckmfehfniaaGreatDoorRX
namespace Go.Proofs.YtpjpckmfehfniaaGreatDoor
open Go.RowKit
def WS (m : M.M3) (w : World) : World := (WG m w).alloc (.cells #[.bool false, .int .i64 0, .string ⟨#[]⟩, .bool false, .string ⟨#[]⟩, .int .i64 0] 30)
theorem WS_size (m : M.M3) (w : World) : (WS m w).heap.size = w.heap.size + 3 := by simp [WS, WG_size]
theorem WS_below (m : M.M3) (w : World) : Below w.heap.size w (WS m w) := (WG_below m w).alloc (by rw [WG_size]; omega) _
theorem WS_g {m : M.M3} {w u : World} (h : Below (w.heap.size + 3) (WS m w) u) : Below (w.heap.size + 2) (WG m w) u := ((Below.refl _ _).alloc (by rw [WG_size]; omega) _).trans (h.mono (by omega))
theorem WS_z {m : M.M3} {w u : World} (h : Below (w.heap.size + 3) (WS m w) u) : T6At u (w.heap.size + 1) zeroT := WG_z (WS_g h)
theorem WS_n {m : M.M3} {w u : World} (h : Below (w.heap.size + 3) (WS m w) u) : T6At u (w.heap.size + 1 + 1) zeroT := by
 have e : (w.heap.size + 1 + 1) = (WG m w).heap.size := by rw [WG_size]
 unfold T6At
 rw [h.block _ (by omega), e]
 exact alloc_new rfl _
theorem wp_loadT {ops : Array Oper} {rest : List Oper} {o : Oper} {a : Act} {u : World} {Q : Exit → Act → World → Prop} (hgd : o.guard = none) (x : Operand) (ho : o.op = .load 30 x) (B : Nat) (hx : a.eval x = .pointer (some ⟨B, 0, none⟩)) (t : TN) (hT : T6At u B t)
 (h : wpList Tryz.prog ops Q rest (a.put o.dst t.v) u) : wpList Tryz.prog ops Q (o :: rest) a u :=
 M.wpList_load_blk (P := Tryz.prog) hgd 30 x ho B hx _ _ hT.blk Tryz.underlying30 rfl (by kernel_rfl) h
theorem c34s {o : Bool} {c : Int} {t : ByteArray} {h : Bool} {nm : ByteArray} {k : Int} (a : Option Addr) (cap n : Nat) (T : List I3) (arg : ByteArray) (a2 : Option Addr) (cap2 n2 : Nat) (reps : List R2) (w : World) (hn : n = T.length) (hn2 : n2 = reps.length) (h3 : Three T arg reps) (hat : InsAt w a T) (hat2 : ResAt w a2 reps) (e : nextT T arg reps = ⟨o, c, t, h, nm, k⟩) :
 Calls Tryz.prog 34 #[.agg #[.slice a n cap], .string arg, .slice a2 n2 cap2] w fun e w' => e = .returned (.agg #[.bool o, .int .i64 c, .string t, .bool h, .string nm, .int .i64 k]) ∧ Below w.heap.size w w' := by
 subst hn hn2
 exact c34t a cap T arg a2 cap2 reps w h3 hat hat2 e
set_option maxHeartbeats 16000000 in
set_option maxRecDepth 100000 in
theorem c8y (m : M.M3) (a : Option Addr) (cap : Nat) (ls : List M.L4) (w : World) (hm : m.le 1048576) (hk : M.okM m = true) (hlk : M.LksOk ls) (hs : ∀ i, (ls.getD i M.l4z).le 1048576) (hat : M.LksAt w a ls) :
 Calls Tryz.prog 8 #[.agg #[.string m.nm, .string m.tl, .string m.ar], .slice a ls.length cap] w fun e w' => e = .returned (goL m.tl m.ar (turn0 m.tl) rs0 ls).v ∧ Below w.heap.size w w' := by
 have hml : m.le 1048700 := ⟨by have := hm.1; omega, by have := hm.2.1; omega, by have := hm.2.2; omega⟩
 have h15 : ls.length ≤ 15 := hlk.1
 have HAT : Hid (M.LksAt w a ls) := hat
 have HLK : Hid (M.LksOk ls) := hlk
 clear hat hlk
 go_enter Tryz.func8, Tryz.ntmps8
 have HW : Hid (WS m w = (((w.alloc (.cells #[.string m.nm, .string m.tl, .string m.ar] 32)).alloc (.cells #[.bool false, .int .i64 0, .string ⟨#[]⟩, .bool false, .string ⟨#[]⟩, .int .i64 0] 30)).alloc (.cells #[.bool false, .int .i64 0, .string ⟨#[]⟩, .bool false, .string ⟨#[]⟩, .int .i64 0] 30))) := rfl
 go_wp2_with fail
 rw [← HW.out]
 refine (M.c32v hk _ hml).mono ?_
 rintro e w1 ⟨rfl, hb1⟩
 have HB1 : Hid (Below (w.heap.size + 3) (WS m w) w1) := hb1.mono (by rw [WS_size]; omega)
 have hz1 : w.heap.size + 3 ≤ w1.heap.size := by have := hb1.size; rw [WS_size] at this; exact this
 have hBw1 : Below w.heap.size w w1 := (WS_below m w).trans (HB1.out.mono (by omega))
 clear hb1
 go_wp2_with fail
 refine (M.c33 a cap ls w1 (by omega) hs (M.lks_below HAT.out hBw1)).mono ?_
 rintro e w2 ⟨⟨r, rfl, hr⟩, hb2⟩
 have hrt : r = true := hr.2 HLK.out
 subst hrt
 have HB2 : Hid (Below (w.heap.size + 3) (WS m w) w2) := HB1.out.trans (hb2.mono (by omega))
 have hz2 : w.heap.size + 3 ≤ w2.heap.size := Nat.le_trans hz1 hb2.size
 obtain ⟨y0, y1, y2⟩ := WG_m (WS_g HB2.out)
 clear hb2 hBw1 HB1 hr
 go_wp2_with fail
 obtain ⟨w3, hw3⟩ : ∃ w3, w3 = ((w2.alloc (.cells #[.bool false, .int .i64 0, .string ⟨#[]⟩, .bool false, .string m.tl, .int .i64 0] 30)).alloc (.cells #[] 28)).alloc (.cells #[.slice none 0 0] 74) := ⟨_, rfl⟩
 rw [← hw3]
 have hz3 : w3.heap.size = w2.heap.size + 3 := by rw [hw3]; simp
 have HT3 : Hid (T6At w3 w2.heap.size (turn0 m.tl)) := by
  show w3.heap[_]? = _
  rw [hw3, Lib.alloc_old _ _ _ (by simp; omega), Lib.alloc_old _ _ _ (by simp)]; exact alloc_new rfl _
 have HL3 : Hid (w3.heap[w2.heap.size + 1 + 1]? = some (.cells #[.slice none 0 0] 74 (0, 0))) := by
  show w3.heap[_]? = _
  rw [hw3]; exact alloc_new (by simp) _
 have HO3 : Hid (w3.ownsRow (w2.heap.size + 1) 28 2 (.slice (some ⟨w2.heap.size + 1, 0, none⟩) 0 0) 0 []) := by
  show w3.ownsRow _ _ _ _ _ _
  rw [hw3]
  refine World.ownsRow.alloc ?_ _
  refine ⟨rfl, .inr ⟨w2.heap.size + 1, 0, #[], rfl, Nat.le_refl _, alloc_new (by simp) _, Nat.le_refl _, Nat.zero_le _, rfl, rfl⟩⟩
 have HB3 : Hid (Below (w.heap.size + 3) (WS m w) w3) := HB2.out.trans (by rw [hw3]; exact (((Below.refl _ _).alloc hz2 _).alloc (by simp; omega) _).alloc (by simp; omega) _)
 clear hw3 y0 y1 y2
 go_loopw [7, 9] (fun v7 v9 wr => ∃ (k : Nat) (t : TN) (s : RS) (v2 : Value), v9 = .int .i64 k ∧ k ≤ ls.length ∧ Hid (goL m.tl m.ar (turn0 m.tl) rs0 ls = goL m.tl m.ar t s (ls.drop k)) ∧ Hid (T6At wr w2.heap.size t) ∧ Hid (wr.heap[w2.heap.size + 1 + 1]? = some (.cells #[v2] 74 (0, 0))) ∧ Hid (wr.ownsRow (w2.heap.size + 1) 28 2 v7 s.reps.length (resCells s.reps)) ∧ Hid (s.has = true → wr.ownsRow (w2.heap.size + 1) 122 3 v2 s.T.length (insCells s.T)) ∧ Hid (RSOk s) ∧ s.reps.length ≤ k ∧ Hid ((k = 0 ∧ s = rs0) ∨ (0 < k ∧ (t.over = false → s.has = true))) ∧ Hid (Below (w.heap.size + 3) (WS m w) wr) ∧ w3.heap.size ≤ wr.heap.size) (fun _ r _ => ls.length - (intOf r).toNat)
 case atStart => exact ⟨0, turn0 m.tl, rs0, _, rfl, Nat.zero_le _, rfl, HT3.out, HL3.out, HO3.out, (fun h => by cases h), rs0_ok, Nat.zero_le _, .inl ⟨rfl, rfl⟩, HB3.out, by omega⟩
 case round =>
  obtain ⟨k, t, s, v2, rfl, hkl, HG, HT, HL, HO, HI, HS, hsl, HC, HBr, hzr⟩ := hrel
  have hBw : Below w.heap.size w wr := (WS_below m w).trans (HBr.out.mono (by omega))
  obtain ⟨o, c, tx, hh, n, st⟩ := t
  obtain ⟨t0, t1, t2, t3, t4, t5, tf⟩ := T6At.cells HT.out
  by_cases hlt : k < ls.length
  · obtain ⟨lb, off, ha, hlb, x0, x1, x2, x3⟩ := lks_cells HAT.out hBw hlt
    subst ha
    have hxs := hs k
    have HLO : Hid (M.LkOk (ls.getD k M.l4z)) := HLK.out.2 k hlt
    have HD : Hid (ls.drop k = ls.getD k M.l4z :: ls.drop (k + 1)) := drop_get hlt
    generalize ls.getD k M.l4z = x at *
    obtain ⟨xh, xn, xc, xt⟩ := x
    have hl1 : w2.heap.size < wr.heap.size := by omega
    have p0 := past (p := ⟨w2.heap.size, 0, none⟩) hl1 t0 (.cells #[.bool xh, .string xn, .int .i64 xc, .string xt] 76)
    have p3 := past (p := ⟨w2.heap.size, 3, none⟩) hl1 t3 (.cells #[.bool xh, .string xn, .int .i64 xc, .string xt] 76)
    have p4 := past (p := ⟨w2.heap.size, 4, none⟩) hl1 t4 (.cells #[.bool xh, .string xn, .int .i64 xc, .string xt] 76)
    have HBa : Hid (Below (w.heap.size + 3) (WS m w) (wr.alloc (.cells #[.bool xh, .string xn, .int .i64 xc, .string xt] 76))) := HBr.out.alloc (by omega) _
    clear t0 t1 t2 t3 t4 t5 tf hBw
    cases o
    · by_cases hhe : xh = hh
      · subst hhe
        by_cases hne : xn = n
        · subst hne
          have hne' : (xn.toList == xn.toList) = true := by simp
          have hhalt : ¬ Halt ⟨false, c, tx, xh, xn, st⟩ ⟨xh, xn, xc, xt⟩ := by
           rintro (h | h | h | h)
           · cases h
           · exact h rfl
           · exact h rfl
           · exact h HLO.out
          have HG' : Hid (goL m.tl m.ar (turn0 m.tl) rs0 ls = goL m.tl m.ar (nextR m.tl m.ar s ⟨xc, xt⟩).1 (nextR m.tl m.ar s ⟨xc, xt⟩).2 (ls.drop (k + 1))) := by
           rw [HG.out, HD.out]; exact goL_go hhalt
          rcases HC.out with ⟨rfl, rfl⟩ | ⟨hk0, hhas⟩
          · simp only [Nat.zero_mul, Nat.add_zero] at x0 x1 x2 x3
            go_wp2_with fail
            refine (c35o xt _ (by have := hxs.2; exact this)).mono ?_
            rintro e w4 ⟨⟨is, ok, ai, ci, rfl, hown, hread⟩, hb4⟩
            have hz4 : wr.heap.size + 1 ≤ w4.heap.size := by have := hb4.size; simpa using this
            have hbr : Below wr.heap.size wr w4 := ((Below.refl _ _).alloc (Nat.le_refl _) _).trans (hb4.mono (by simp))
            have HB4 : Hid (Below (w.heap.size + 3) (WS m w) w4) := HBa.out.trans (hb4.mono (by simp; omega))
            have HT4 : Hid (T6At w4 w2.heap.size ⟨false, c, tx, xh, xn, st⟩) := HT.out.below hbr hl1
            have hL4 : w4.heap[w2.heap.size + 1 + 1]? = some (.cells #[v2] 74 (0, 0)) := (hbr.block _ (by omega)).trans HL.out
            have HO4 : Hid (w4.ownsRow (w2.heap.size + 1) 28 2 u7 0 []) := ownsRow_below HO.out hbr
            have HI4 : Hid (w4.ownsRow (w2.heap.size + 1) 122 3 (.slice ai is.length ci) is.length (insCells is)) := owns_mono hown (by simp; omega)
            have z2 : w4.cell? ⟨wr.heap.size, 2, none⟩ = some (.int .i64 xc) := (hb4.cell (p := ⟨wr.heap.size, 2, none⟩) (by simp)).trans (by simp [go_sem])
            have HRD : Hid (readT xt.data.toList = (is, ok)) := readT_of hread
            obtain ⟨hil, hiz⟩ := read_small hread
            have g2 : w4.cell? ⟨w2.heap.size + 1 + 1, 0, none⟩ = some v2 := by rw [Lib.cell_of_heap hL4]; rfl
            have gf : w4.frozen? ⟨w2.heap.size + 1 + 1, 0, none⟩ = false := Lib.frozen_of_heap hL4 0
            have hTl : w2.heap.size + 1 + 1 < w4.heap.size := by omega
            have g3 := past (p := ⟨w2.heap.size + 1 + 1, 0, none⟩) hTl g2 (.cells #[.slice ai is.length ci] 74)
            have gg := pastf (p := ⟨w2.heap.size + 1 + 1, 0, none⟩) hTl gf (.cells #[.slice ai is.length ci] 74)
            have hneT : wr.heap.size ≠ w2.heap.size + 1 + 1 := by omega
            have z2v : (w4.setCell ⟨w2.heap.size + 1 + 1, 0, none⟩ (.slice ai is.length ci)).cell? ⟨wr.heap.size, 2, none⟩ = some (.int .i64 xc) := by rw [World.cell?_setCell_other _ _ _ _ (fun e => hneT (by injection e with e _; exact e.symm))]; exact z2
            have z2p := past (p := ⟨wr.heap.size, 2, none⟩) (by simp; omega) z2v (.cells #[.slice ai is.length ci] 74)
            obtain ⟨y0, y1, y2⟩ := WG_m (WS_g HB4.out)
            have hneM : w.heap.size ≠ w2.heap.size + 1 + 1 := by omega
            have y1v : (w4.setCell ⟨w2.heap.size + 1 + 1, 0, none⟩ (.slice ai is.length ci)).cell? ⟨w.heap.size, 1, none⟩ = some (.string m.tl) := by rw [World.cell?_setCell_other _ _ _ _ (fun e => hneM (by injection e with e _; exact e.symm))]; exact y1
            have y1p := past (p := ⟨w.heap.size, 1, none⟩) (by simp; omega) y1v (.cells #[.slice ai is.length ci] 74)
            have y2v : (w4.setCell ⟨w2.heap.size + 1 + 1, 0, none⟩ (.slice ai is.length ci)).cell? ⟨w.heap.size, 2, none⟩ = some (.string m.ar) := by rw [World.cell?_setCell_other _ _ _ _ (fun e => hneM (by injection e with e _; exact e.symm))]; exact y2
            have y2p := past (p := ⟨w.heap.size, 2, none⟩) (by simp; omega) y2v (.cells #[.slice ai is.length ci] 74)
            have gv : (w4.setCell ⟨w2.heap.size + 1 + 1, 0, none⟩ (.slice ai is.length ci)).cell? ⟨w2.heap.size + 1 + 1, 0, none⟩ = some (.slice ai is.length ci) := World.cell?_setCell_same _ _ _ g2
            have gvp := past (p := ⟨w2.heap.size + 1 + 1, 0, none⟩) (by simp; omega) gv (.cells #[.slice ai is.length ci] 74)
            obtain ⟨U, hU⟩ : ∃ U, U = (w4.setCell ⟨w2.heap.size + 1 + 1, 0, none⟩ (.slice ai is.length ci)).alloc (.cells #[.slice ai is.length ci] 74) := ⟨_, rfl⟩
            have HU : Hid (U = (w4.setCell ⟨w2.heap.size + 1 + 1, 0, none⟩ (.slice ai is.length ci)).alloc (.cells #[.slice ai is.length ci] 74)) := hU
            have hzU : w4.heap.size + 1 = U.heap.size := by rw [hU]; simp
            have kU : ∀ (k : Nat) (x : Array Value) (t : TypeId), w4.heap[k]? = some (.cells x t (0, 0)) → t ≠ 74 → U.heap[k]? = some (.cells x t (0, 0)) := fun k x t h1 ht => by
             rw [hU, Lib.alloc_old _ _ _ (by simp; exact blk_lt h1), heap_setCell_other _ _ _ _ (blk_ne h1 hL4 ht)]; exact h1
            have HTU : Hid (T6At U w2.heap.size ⟨false, c, tx, xh, xn, st⟩) := kU _ _ _ HT4.out (by decide)
            have HLU : Hid (U.heap[w2.heap.size + 1 + 1]? = some (.cells #[.slice ai is.length ci] 74 (0, 0))) := by
             show U.heap[_]? = _
             rw [hU, Lib.alloc_old _ _ _ (by simp; omega)]; exact heap_setCell_same _ _ 0 _ _ _ hL4
            have HOU : Hid (U.ownsRow (w2.heap.size + 1) 28 2 u7 0 []) := ownsRow_keep HO4.out fun k hk => by
             obtain ⟨_, cur, hc⟩ := own_block HO4.out hk
             rw [kU _ _ _ hc (by decide), hc]
            have HIU : Hid (U.ownsRow (w2.heap.size + 1) 122 3 (.slice ai is.length ci) is.length (insCells is)) := ownsRow_keep HI4.out fun k hk => by
             obtain ⟨_, cur, hc⟩ := own_block HI4.out hk
             rw [kU _ _ _ hc (by decide), hc]
            have HBU : Hid (Below (w.heap.size + 3) (WS m w) U) := HB4.out.trans (by rw [hU]; exact ((Below.refl _ _).setCell (by show w.heap.size + 3 ≤ w2.heap.size + 1 + 1; omega) _).alloc (by simp; omega) _)
            clear hU kU hb4 hbr hown hread p0 p3 p4 x0 x1 x2 x3 y0 y1 y2 z2 g2 gf y1v y2v z2v gv
            by_cases hx4 : xc = 4
            · subst hx4
              have e4 : nextR m.tl m.ar rs0 ⟨4, xt⟩ = (overT 4 m.tl 0, rs0) := by simp [nextR, rs0]
              rw [e4] at HG'
              have HS6 : Hid (RSOk rs0) := rs0_ok
              go_wp2_with fail
              rw [← HU.out]
              refine (c36x 4 m.tl 0 U).mono ?_
              rintro e w5 ⟨rfl, hb5⟩
              have HT5 : Hid (T6At w5 w2.heap.size ⟨false, c, tx, xh, xn, st⟩) := HTU.out.below hb5 (by omega)
              have HL5 : w5.heap[w2.heap.size + 1 + 1]? = some (.cells #[.slice ai is.length ci] 74 (0, 0)) := (hb5.block _ (by omega)).trans HLU.out
              have HL5' : Hid (w5.heap[w2.heap.size + 1 + 1]? = some (.cells #[.slice ai is.length ci] 74 (0, 0))) := HL5
              have HO5 : Hid (w5.ownsRow (w2.heap.size + 1) 28 2 u7 0 []) := ownsRow_below HOU.out hb5
              have HI5 : Hid (w5.ownsRow (w2.heap.size + 1) 122 3 (.slice ai is.length ci) is.length (insCells is)) := ownsRow_below HIU.out hb5
              have HB5 : Hid (Below (w.heap.size + 3) (WS m w) w5) := HBU.out.trans (hb5.mono (by omega))
              have hz5 : U.heap.size ≤ w5.heap.size := hb5.size
              clear hb5 HL5
              go_wp2_with (refine wp_turn rfl _ _ rfl w2.heap.size rfl ⟨true, 4, m.tl, false, ⟨#[]⟩, 0⟩ _ rfl HT5.out rfl ?_; intro u' hT' hB' hK')
              have HT6 : Hid (T6At u' w2.heap.size ⟨true, 4, m.tl, false, ⟨#[]⟩, 0⟩) := hT'
              have hbl : ∀ (k : Nat) (x : Array Value) (t : TypeId), w5.heap[k]? = some (.cells x t (0, 0)) → t ≠ 30 → u'.heap[k]? = some (.cells x t (0, 0)) := fun k x t h1 ht => (hK' k (blk_ne h1 HT5.out ht)).trans h1
              have HL6 : Hid (u'.heap[w2.heap.size + 1 + 1]? = some (.cells #[.slice ai is.length ci] 74 (0, 0))) := hbl _ _ _ HL5'.out (by decide)
              have HO6 : Hid (u'.ownsRow (w2.heap.size + 1) 28 2 u7 0 []) := ownsRow_keep HO5.out fun k hk => by
               obtain ⟨_, cur, hc⟩ := own_block HO5.out hk
               rw [hbl _ _ _ hc (by decide), hc]
              have HI6 : Hid (u'.ownsRow (w2.heap.size + 1) 122 3 (.slice ai is.length ci) is.length (insCells is)) := ownsRow_keep HI5.out fun k hk => by
               obtain ⟨_, cur, hc⟩ := own_block HI5.out hk
               rw [hbl _ _ _ hc (by decide), hc]
              have HB6 : Hid (Below (w.heap.size + 3) (WS m w) u') := HB5.out.trans (hB' _ (by omega))
              have hz6 : w5.heap.size ≤ u'.heap.size := (hB' 0 (by omega)).size
              clear hT' hB' hK' hbl
              go_roundw
              case rel => exact ⟨1, ⟨true, 4, m.tl, false, ⟨#[]⟩, 0⟩, rs0, .slice ai is.length ci, rfl, by omega, HG', HT6, HL6, HO6, (fun h => by cases h), HS6, by show 0 ≤ 1; omega, .inr ⟨by omega, fun h => by cases h⟩, HB6, by omega⟩
              case measure => simp [intOf]; omega
            · by_cases hx0 : xc = 0
              · subst hx0
                have e0 : nextR m.tl m.ar rs0 ⟨0, xt⟩ = (firstR m.tl m.ar xt.data.toList, ⟨ok, is, []⟩) := by simp [nextR, rs0, HRD.out]
                rw [e0] at HG'
                have HS6 : Hid (RSOk ⟨ok, is, []⟩) := ⟨hil, hiz, fun i => by simp [r2z, ByteArray.size]⟩
                cases ok
                · have e7 : firstR m.tl m.ar xt.data.toList = overT 7 m.tl 0 := by unfold firstR; rw [HRD.out]; rfl
                  rw [e7] at HG'
                  go_wp2_with fail
                  rw [← HU.out]
                  refine (c36x 7 m.tl 0 U).mono ?_
                  rintro e w5 ⟨rfl, hb5⟩
                  have HT5 : Hid (T6At w5 w2.heap.size ⟨false, c, tx, xh, xn, st⟩) := HTU.out.below hb5 (by omega)
                  have HL5 : w5.heap[w2.heap.size + 1 + 1]? = some (.cells #[.slice ai is.length ci] 74 (0, 0)) := (hb5.block _ (by omega)).trans HLU.out
                  have HL5' : Hid (w5.heap[w2.heap.size + 1 + 1]? = some (.cells #[.slice ai is.length ci] 74 (0, 0))) := HL5
                  have HO5 : Hid (w5.ownsRow (w2.heap.size + 1) 28 2 u7 0 []) := ownsRow_below HOU.out hb5
                  have HI5 : Hid (w5.ownsRow (w2.heap.size + 1) 122 3 (.slice ai is.length ci) is.length (insCells is)) := ownsRow_below HIU.out hb5
                  have HB5 : Hid (Below (w.heap.size + 3) (WS m w) w5) := HBU.out.trans (hb5.mono (by omega))
                  have hz5 : U.heap.size ≤ w5.heap.size := hb5.size
                  clear hb5 HL5
                  go_wp2_with (refine wp_turn rfl _ _ rfl w2.heap.size rfl ⟨true, 7, m.tl, false, ⟨#[]⟩, 0⟩ _ rfl HT5.out rfl ?_; intro u' hT' hB' hK')
                  have HT6 : Hid (T6At u' w2.heap.size ⟨true, 7, m.tl, false, ⟨#[]⟩, 0⟩) := hT'
                  have hbl : ∀ (k : Nat) (x : Array Value) (t : TypeId), w5.heap[k]? = some (.cells x t (0, 0)) → t ≠ 30 → u'.heap[k]? = some (.cells x t (0, 0)) := fun k x t h1 ht => (hK' k (blk_ne h1 HT5.out ht)).trans h1
                  have HL6 : Hid (u'.heap[w2.heap.size + 1 + 1]? = some (.cells #[.slice ai is.length ci] 74 (0, 0))) := hbl _ _ _ HL5'.out (by decide)
                  have HO6 : Hid (u'.ownsRow (w2.heap.size + 1) 28 2 u7 0 []) := ownsRow_keep HO5.out fun k hk => by
                   obtain ⟨_, cur, hc⟩ := own_block HO5.out hk
                   rw [hbl _ _ _ hc (by decide), hc]
                  have HI6 : Hid (u'.ownsRow (w2.heap.size + 1) 122 3 (.slice ai is.length ci) is.length (insCells is)) := ownsRow_keep HI5.out fun k hk => by
                   obtain ⟨_, cur, hc⟩ := own_block HI5.out hk
                   rw [hbl _ _ _ hc (by decide), hc]
                  have HB6 : Hid (Below (w.heap.size + 3) (WS m w) u') := HB5.out.trans (hB' _ (by omega))
                  have hz6 : w5.heap.size ≤ u'.heap.size := (hB' 0 (by omega)).size
                  clear hT' hB' hK' hbl
                  go_roundw
                  case rel => exact ⟨1, ⟨true, 7, m.tl, false, ⟨#[]⟩, 0⟩, ⟨false, is, []⟩, .slice ai is.length ci, rfl, by omega, HG', HT6, HL6, HO6, (fun h => by cases h), HS6, by show 0 ≤ 1; omega, .inr ⟨by omega, fun h => by cases h⟩, HB6, by omega⟩
                  case measure => simp [intOf]; omega
                · rcases hN : nextT is m.ar [] with ⟨o', c', tx', hh', n', st'⟩
                  have e7 : firstR m.tl m.ar xt.data.toList = ⟨o', c', tx', hh', n', st'⟩ := by unfold firstR; rw [HRD.out]; exact hN
                  rw [e7] at HG'
                  have HN : Hid (nextT is m.ar [] = ⟨o', c', tx', hh', n', st'⟩) := hN
                  clear hN e7
                  obtain ⟨a7, c7, hv7, HR7⟩ := own2_form (rs := []) HOU.out
                  have hu7 : u7 = .slice a7 0 c7 := hv7
                  have HR7' : Hid (ResAt U a7 []) := HR7
                  clear hv7 HR7
                  subst hu7
                  obtain ⟨a8, c8, hv8, HI8⟩ := own3_form HIU.out
                  have ha8 : ai = a8 := by injection hv8
                  subst ha8
                  have HI8' : Hid (InsAt U ai is) := HI8
                  clear hv8 HI8
                  go_wp2_with fail
                  rw [← HU.out]
                  refine (c34s ai ci _ is m.ar a7 c7 0 [] U rfl rfl ⟨by omega, fun i => Nat.le_trans (hiz i) (by omega), by have := hm.2.2; exact this, Nat.zero_le _, fun i => by simp [r2z, ByteArray.size]⟩ HI8'.out HR7'.out HN.out).mono ?_
                  rintro e w5 ⟨rfl, hb5⟩
                  have HT5 : Hid (T6At w5 w2.heap.size ⟨false, c, tx, xh, xn, st⟩) := HTU.out.below hb5 (by omega)
                  have HL5 : w5.heap[w2.heap.size + 1 + 1]? = some (.cells #[.slice ai is.length ci] 74 (0, 0)) := (hb5.block _ (by omega)).trans HLU.out
                  have HL5' : Hid (w5.heap[w2.heap.size + 1 + 1]? = some (.cells #[.slice ai is.length ci] 74 (0, 0))) := HL5
                  have HO5 : Hid (w5.ownsRow (w2.heap.size + 1) 28 2 (.slice a7 0 c7) 0 []) := ownsRow_below HOU.out hb5
                  have HI5 : Hid (w5.ownsRow (w2.heap.size + 1) 122 3 (.slice ai is.length ci) is.length (insCells is)) := ownsRow_below HIU.out hb5
                  have HB5 : Hid (Below (w.heap.size + 3) (WS m w) w5) := HBU.out.trans (hb5.mono (by omega))
                  have hz5 : U.heap.size ≤ w5.heap.size := hb5.size
                  clear hb5 HL5
                  go_wp2_with (refine wp_turn rfl _ _ rfl w2.heap.size rfl ⟨o', c', tx', hh', n', st'⟩ _ rfl HT5.out rfl ?_; intro u' hT' hB' hK')
                  have HT6 : Hid (T6At u' w2.heap.size ⟨o', c', tx', hh', n', st'⟩) := hT'
                  have hbl : ∀ (k : Nat) (x : Array Value) (t : TypeId), w5.heap[k]? = some (.cells x t (0, 0)) → t ≠ 30 → u'.heap[k]? = some (.cells x t (0, 0)) := fun k x t h1 ht => (hK' k (blk_ne h1 HT5.out ht)).trans h1
                  have HL6 : Hid (u'.heap[w2.heap.size + 1 + 1]? = some (.cells #[.slice ai is.length ci] 74 (0, 0))) := hbl _ _ _ HL5'.out (by decide)
                  have HO6 : Hid (u'.ownsRow (w2.heap.size + 1) 28 2 (.slice a7 0 c7) 0 []) := ownsRow_keep HO5.out fun k hk => by
                   obtain ⟨_, cur, hc⟩ := own_block HO5.out hk
                   rw [hbl _ _ _ hc (by decide), hc]
                  have HI6 : Hid (u'.ownsRow (w2.heap.size + 1) 122 3 (.slice ai is.length ci) is.length (insCells is)) := ownsRow_keep HI5.out fun k hk => by
                   obtain ⟨_, cur, hc⟩ := own_block HI5.out hk
                   rw [hbl _ _ _ hc (by decide), hc]
                  have HB6 : Hid (Below (w.heap.size + 3) (WS m w) u') := HB5.out.trans (hB' _ (by omega))
                  have hz6 : w5.heap.size ≤ u'.heap.size := (hB' 0 (by omega)).size
                  clear hT' hB' hK' hbl
                  go_roundw
                  case rel => exact ⟨1, ⟨o', c', tx', hh', n', st'⟩, ⟨true, is, []⟩, .slice ai is.length ci, rfl, by omega, HG', HT6, HL6, HO6, (fun _ => HI6.out), HS6, by show 0 ≤ 1; omega, .inr ⟨by omega, fun _ => rfl⟩, HB6, by omega⟩
                  case measure => simp [intOf]; omega
              · have e5 : nextR m.tl m.ar rs0 ⟨xc, xt⟩ = (overT 5 m.tl 0, rs0) := by simp [nextR, rs0, hx0, hx4]
                rw [e5] at HG'
                have HS6 : Hid (RSOk rs0) := rs0_ok
                go_wp2_with fail
                rw [← HU.out]
                refine (c36x 5 m.tl 0 U).mono ?_
                rintro e w5 ⟨rfl, hb5⟩
                have HT5 : Hid (T6At w5 w2.heap.size ⟨false, c, tx, xh, xn, st⟩) := HTU.out.below hb5 (by omega)
                have HL5 : w5.heap[w2.heap.size + 1 + 1]? = some (.cells #[.slice ai is.length ci] 74 (0, 0)) := (hb5.block _ (by omega)).trans HLU.out
                have HL5' : Hid (w5.heap[w2.heap.size + 1 + 1]? = some (.cells #[.slice ai is.length ci] 74 (0, 0))) := HL5
                have HO5 : Hid (w5.ownsRow (w2.heap.size + 1) 28 2 u7 0 []) := ownsRow_below HOU.out hb5
                have HI5 : Hid (w5.ownsRow (w2.heap.size + 1) 122 3 (.slice ai is.length ci) is.length (insCells is)) := ownsRow_below HIU.out hb5
                have HB5 : Hid (Below (w.heap.size + 3) (WS m w) w5) := HBU.out.trans (hb5.mono (by omega))
                have hz5 : U.heap.size ≤ w5.heap.size := hb5.size
                clear hb5 HL5
                go_wp2_with (refine wp_turn rfl _ _ rfl w2.heap.size rfl ⟨true, 5, m.tl, false, ⟨#[]⟩, 0⟩ _ rfl HT5.out rfl ?_; intro u' hT' hB' hK')
                have HT6 : Hid (T6At u' w2.heap.size ⟨true, 5, m.tl, false, ⟨#[]⟩, 0⟩) := hT'
                have hbl : ∀ (k : Nat) (x : Array Value) (t : TypeId), w5.heap[k]? = some (.cells x t (0, 0)) → t ≠ 30 → u'.heap[k]? = some (.cells x t (0, 0)) := fun k x t h1 ht => (hK' k (blk_ne h1 HT5.out ht)).trans h1
                have HL6 : Hid (u'.heap[w2.heap.size + 1 + 1]? = some (.cells #[.slice ai is.length ci] 74 (0, 0))) := hbl _ _ _ HL5'.out (by decide)
                have HO6 : Hid (u'.ownsRow (w2.heap.size + 1) 28 2 u7 0 []) := ownsRow_keep HO5.out fun k hk => by
                 obtain ⟨_, cur, hc⟩ := own_block HO5.out hk
                 rw [hbl _ _ _ hc (by decide), hc]
                have HI6 : Hid (u'.ownsRow (w2.heap.size + 1) 122 3 (.slice ai is.length ci) is.length (insCells is)) := ownsRow_keep HI5.out fun k hk => by
                 obtain ⟨_, cur, hc⟩ := own_block HI5.out hk
                 rw [hbl _ _ _ hc (by decide), hc]
                have HB6 : Hid (Below (w.heap.size + 3) (WS m w) u') := HB5.out.trans (hB' _ (by omega))
                have hz6 : w5.heap.size ≤ u'.heap.size := (hB' 0 (by omega)).size
                clear hT' hB' hK' hbl
                go_roundw
                case rel => exact ⟨1, ⟨true, 5, m.tl, false, ⟨#[]⟩, 0⟩, rs0, .slice ai is.length ci, rfl, by omega, HG', HT6, HL6, HO6, (fun h => by cases h), HS6, by show 0 ≤ 1; omega, .inr ⟨by omega, fun h => by cases h⟩, HB6, by omega⟩
                case measure => simp [intOf]; omega
          · have hs1 : s.has = true := hhas rfl
            obtain ⟨sh, T, reps⟩ := s
            have hs2 : sh = true := hs1
            subst hs2
            have e1 : nextR m.tl m.ar ⟨true, T, reps⟩ ⟨xc, xt⟩ = (nextT T m.ar (reps ++ [⟨xc, xt⟩]), ⟨true, T, reps ++ [⟨xc, xt⟩]⟩) := by simp [nextR]
            rw [e1] at HG'
            have HS6 : Hid (RSOk ⟨true, T, reps ++ [⟨xc, xt⟩]⟩) := ⟨HS.out.tl, HS.out.ts, snoc_small HS.out.rs (by have := hxs.2; exact this)⟩
            rcases hN : nextT T m.ar (reps ++ [⟨xc, xt⟩]) with ⟨o', c', tx', hh', n', st'⟩
            rw [hN] at HG'
            have HN : Hid (nextT T m.ar (reps ++ [⟨xc, xt⟩]) = ⟨o', c', tx', hh', n', st'⟩) := hN
            have hsl' : reps.length ≤ k := hsl
            have H3 : Hid (Three T m.ar (reps ++ [⟨xc, xt⟩])) := ⟨by have := HS.out.tl; exact Nat.le_trans this (by omega), fun i => Nat.le_trans (HS.out.ts i) (by omega), by have := hm.2.2; exact this, by simp; omega, snoc_small HS.out.rs (by have := hxs.2; exact this)⟩
            clear hN e1 hs1
            have hO : wr.ownsRow (w2.heap.size + 1) 28 2 u7 reps.length (resCells reps) := HO.out
            have hI : wr.ownsRow (w2.heap.size + 1) 122 3 v2 T.length (insCells T) := HI.out rfl
            obtain ⟨i0, hi, hz0, hz1', hz2'⟩ := info_parts info28
            obtain ⟨wx, hwx⟩ : ∃ wx, wx = (wr.alloc (.cells #[.bool xh, .string xn, .int .i64 xc, .string xt] 76)).alloc (.cells #[.int .i64 xc, .string xt] 28) := ⟨_, rfl⟩
            have HWX : Hid (wx = (wr.alloc (.cells #[.bool xh, .string xn, .int .i64 xc, .string xt] 76)).alloc (.cells #[.int .i64 xc, .string xt] 28)) := hwx
            have hbx : Below wr.heap.size wr wx := by rw [hwx]; exact ((Below.refl _ _).alloc (Nat.le_refl _) _).alloc (by simp) _
            have hzx : wx.heap.size = wr.heap.size + 2 := by rw [hwx]; simp
            have HBx : Hid (Below wr.heap.size wr wx) := hbx
            have HIx : Hid (wx.ownsRow (w2.heap.size + 1) 122 3 v2 T.length (insCells T)) := ownsRow_below hI hbx
            have HOx : Hid (wx.ownsRow (w2.heap.size + 1) 28 2 u7 reps.length (resCells reps)) := ownsRow_below hO hbx
            clear hwx hbx hI
            go_wp2_with (at_builtin; refine wpList_append_own _ rfl _ _ 71 rfl (w2.heap.size + 1) 28 i0 (.agg #[.int .i64 0, .string ⟨#[]⟩]) 2 24 Tryz.underlying71 hi hz0 hz1' hz2' rfl (by decide) _ _ _ rfl ((hO.alloc _).alloc _) ⟨wr.heap.size + 1, 0, none⟩ 1 1 [_, _] rfl rfl (row2n (by simp) _ _ _) (by intro u hu; simp at hu; rcases hu with rfl | rfl <;> rfl) (by unfold maxLen; omega) (by omega) (by simp; omega) ?_; rw [← HWX.out]; intro v' w4 hown4 (hgrow : wx.grownBy w4 u7.ownBlock) _; have hrow : ∀ k, u7.ownBlock = some k → w2.heap.size + 1 ≤ k ∧ ∃ cur, wx.heap[k]? = some (.cells cur 28 (0, 0)) := (fun k hk => own_block HOx.out hk); have g3 : ∀ (k : Nat) (x : Array Value) (t : TypeId), wx.heap[k]? = some (.cells x t (0, 0)) → t ≠ 28 → w4.heap[k]? = some (.cells x t (0, 0)) := (fun k x t hk ht => (hgrow.block k (blk_lt hk) (fun e => by obtain ⟨_, cur, hc⟩ := hrow _ e.symm; exact blk_ne hk hc ht rfl)).trans hk); have HB4 : Hid (Below (w.heap.size + 3) (WS m w) w4) := ((HBr.out.trans (HBx.out.mono (by omega))).grown hgrow (by omega) (fun k hk => by have := (hrow k hk).1; omega)); have HT4 : Hid (T6At w4 w2.heap.size ⟨false, c, tx, xh, xn, st⟩) := g3 _ _ _ (HT.out.below HBx.out hl1) (by decide); have HL4 : Hid (w4.heap[w2.heap.size + 1 + 1]? = some (.cells #[v2] 74 (0, 0))) := g3 _ _ _ ((HBx.out.block _ (by omega)).trans HL.out) (by decide); have HI4 : Hid (w4.ownsRow (w2.heap.size + 1) 122 3 v2 T.length (insCells T)) := (ownsRow_keep HIx.out fun k hk => by obtain ⟨_, cur, hc⟩ := own_block HIx.out hk; rw [g3 _ _ _ hc (by decide), hc]); have hz4 : wx.heap.size ≤ w4.heap.size := hgrow.size; obtain ⟨y0, y1, y2⟩ := WG_m (WS_g HB4.out); obtain ⟨a2, cp2, hv2, HIN⟩ := own3_form HI4.out; have gt : w4.cell? ⟨w2.heap.size + 1 + 1, 0, none⟩ = some (.slice a2 T.length cp2) := (by rw [Lib.cell_of_heap HL4.out, ← hv2]; rfl); have HIN' : Hid (InsAt w4 a2 T) := HIN; have HO4 : Hid (w4.ownsRow (w2.heap.size + 1) 28 2 v' (reps.length + 1) (resCells reps ++ [.int .i64 xc, .string xt])) := hown4; obtain ⟨ao, cp, rfl⟩ := row_form2 hown4; clear hgrow hown4 hrow g3 HIN hv2)
            have HO4' : Hid (w4.ownsRow (w2.heap.size + 1) 28 2 (.slice ao (reps.length + 1) cp) (reps ++ [(⟨xc, xt⟩ : R2)]).length (resCells (reps ++ [⟨xc, xt⟩]))) := by
             show w4.ownsRow _ _ _ _ _ _
             rw [resCells_snoc, List.length_append]; exact HO4.out
            obtain ⟨a3, cp3, hv3, HRS⟩ := own2_form HO4'.out
            have ha3 : ao = a3 := by injection hv3
            subst ha3
            refine (c34s a2 cp2 _ T m.ar ao cp _ (reps ++ [⟨xc, xt⟩]) w4 rfl (by simp) H3.out HIN'.out HRS HN.out).mono ?_
            rintro e w5 ⟨rfl, hb5⟩
            have HT5 : Hid (T6At w5 w2.heap.size ⟨false, c, tx, xh, xn, st⟩) := HT4.out.below hb5 (by omega)
            have HL5 : Hid (w5.heap[w2.heap.size + 1 + 1]? = some (.cells #[v2] 74 (0, 0))) := (hb5.block _ (by omega)).trans HL4.out
            have HO5 : Hid (w5.ownsRow (w2.heap.size + 1) 28 2 (.slice ao (reps.length + 1) cp) (reps ++ [(⟨xc, xt⟩ : R2)]).length (resCells (reps ++ [⟨xc, xt⟩]))) := ownsRow_below HO4'.out hb5
            have HI5 : Hid (w5.ownsRow (w2.heap.size + 1) 122 3 v2 T.length (insCells T)) := ownsRow_below HI4.out hb5
            have HB5 : Hid (Below (w.heap.size + 3) (WS m w) w5) := HB4.out.trans (hb5.mono (by omega))
            have hz5 : w4.heap.size ≤ w5.heap.size := hb5.size
            clear hb5 hv3 HRS y0 y1 y2 gt
            go_wp2_with (refine wp_turn rfl _ _ rfl w2.heap.size rfl ⟨o', c', tx', hh', n', st'⟩ _ rfl HT5.out rfl ?_; intro u' hT' hB' hK')
            have HT6 : Hid (T6At u' w2.heap.size ⟨o', c', tx', hh', n', st'⟩) := hT'
            have hbl : ∀ (k : Nat) (x : Array Value) (t : TypeId), w5.heap[k]? = some (.cells x t (0, 0)) → t ≠ 30 → u'.heap[k]? = some (.cells x t (0, 0)) := fun k x t h1 ht => (hK' k (blk_ne h1 HT5.out ht)).trans h1
            have HL6 : Hid (u'.heap[w2.heap.size + 1 + 1]? = some (.cells #[v2] 74 (0, 0))) := hbl _ _ _ HL5.out (by decide)
            have HO6 : Hid (u'.ownsRow (w2.heap.size + 1) 28 2 (.slice ao (reps.length + 1) cp) (reps ++ [(⟨xc, xt⟩ : R2)]).length (resCells (reps ++ [⟨xc, xt⟩]))) := ownsRow_keep HO5.out fun k hk => by
             obtain ⟨_, cur, hc⟩ := own_block HO5.out hk
             rw [hbl _ _ _ hc (by decide), hc]
            have HI6 : Hid (u'.ownsRow (w2.heap.size + 1) 122 3 v2 T.length (insCells T)) := ownsRow_keep HI5.out fun k hk => by
             obtain ⟨_, cur, hc⟩ := own_block HI5.out hk
             rw [hbl _ _ _ hc (by decide), hc]
            have HB6 : Hid (Below (w.heap.size + 3) (WS m w) u') := HB5.out.trans (hB' _ (by omega))
            have hz6 : w5.heap.size ≤ u'.heap.size := (hB' 0 (by omega)).size
            clear hT' hB' hK' hbl
            go_roundw
            case rel => exact ⟨k + 1, ⟨o', c', tx', hh', n', st'⟩, ⟨true, T, reps ++ [⟨xc, xt⟩]⟩, v2, by go_num, by omega, HG', HT6, HL6, HO6, fun _ => HI6.out, HS6, by show (reps ++ [_]).length ≤ k + 1; simp; omega, .inr ⟨by omega, fun _ => rfl⟩, HB6, by omega⟩
            case measure => simp [intOf]; omega
        · have hne' : ¬ n.toList = xn.toList := fun h => hne ((M.ba_iff _ _).1 h).symm
          have hne2 : (n.toList == xn.toList) = false := by simpa using hne'
          have HZ : Hid (goL m.tl m.ar (turn0 m.tl) rs0 ls = zeroT) := by rw [HG.out, HD.out]; exact goL_halt (.inr (.inr (.inl hne)))
          go_wp2_with (first | (refine wp_loadT rfl (.tmp 5) rfl (w.heap.size + 1 + 1) rfl zeroT (WS_n HBa.out) ?_) | (refine wp_turn rfl (.tmp 4) _ rfl (w.heap.size + 1) rfl zeroT zeroT rfl (WS_z HBa.out) rfl ?_; intro u' hT' hB' _))
          refine bodyPost_ret (v := zeroT.v) (M.results_blk (P := Tryz.prog) (ty := 30) rfl _ _ (w.heap.size + 1) _ _ rfl hT'.blk Tryz.underlying30 rfl (by kernel_rfl)) rfl ⟨by rw [HZ.out], ?_⟩
          exact ((WS_below m w).trans (HBa.out.mono (by omega))).trans (hB' _ (by omega))
      · have hhe' : ¬ hh = xh := fun h => hhe h.symm
        have HZ : Hid (goL m.tl m.ar (turn0 m.tl) rs0 ls = zeroT) := by rw [HG.out, HD.out]; exact goL_halt (.inr (.inl hhe))
        go_wp2_with (first | (refine wp_loadT rfl (.tmp 5) rfl (w.heap.size + 1 + 1) rfl zeroT (WS_n HBa.out) ?_) | (refine wp_turn rfl (.tmp 4) _ rfl (w.heap.size + 1) rfl zeroT zeroT rfl (WS_z HBa.out) rfl ?_; intro u' hT' hB' _))
        refine bodyPost_ret (v := zeroT.v) (M.results_blk (P := Tryz.prog) (ty := 30) rfl _ _ (w.heap.size + 1) _ _ rfl hT'.blk Tryz.underlying30 rfl (by kernel_rfl)) rfl ⟨by rw [HZ.out], ?_⟩
        exact ((WS_below m w).trans (HBa.out.mono (by omega))).trans (hB' _ (by omega))
    · have HZ : Hid (goL m.tl m.ar (turn0 m.tl) rs0 ls = zeroT) := by rw [HG.out, HD.out]; exact goL_halt (.inl rfl)
      go_wp2_with (first | (refine wp_loadT rfl (.tmp 5) rfl (w.heap.size + 1 + 1) rfl zeroT (WS_n HBa.out) ?_) | (refine wp_turn rfl (.tmp 4) _ rfl (w.heap.size + 1) rfl zeroT zeroT rfl (WS_z HBa.out) rfl ?_; intro u' hT' hB' _))
      refine bodyPost_ret (v := zeroT.v) (M.results_blk (P := Tryz.prog) (ty := 30) rfl _ _ (w.heap.size + 1) _ _ rfl hT'.blk Tryz.underlying30 rfl (by kernel_rfl)) rfl ⟨by rw [HZ.out], ?_⟩
      exact ((WS_below m w).trans (HBa.out.mono (by omega))).trans (hB' _ (by omega))
  · have hke : k = ls.length := by omega
    have HZ : Hid (goL m.tl m.ar (turn0 m.tl) rs0 ls = ⟨o, c, tx, hh, n, st⟩) := by
     rw [HG.out, hke, List.drop_eq_nil_of_le (Nat.le_refl _)]; rfl
    subst hke
    go_wp2_with (refine wp_turn rfl _ _ rfl (w.heap.size + 1) rfl ⟨o, c, tx, hh, n, st⟩ zeroT rfl (WS_z HBr.out) rfl ?_; intro u' hT' hB' _)
    refine bodyPost_ret (v := TN.v ⟨o, c, tx, hh, n, st⟩) (M.results_blk (P := Tryz.prog) (ty := 30) rfl _ _ (w.heap.size + 1) _ _ rfl hT'.blk Tryz.underlying30 rfl (by kernel_rfl)) rfl ⟨by rw [HZ.out], ?_⟩
    exact ((WS_below m w).trans (HBr.out.mono (by omega))).trans (hB' _ (by omega))
end Go.Proofs.YtpjpckmfehfniaaGreatDoor
