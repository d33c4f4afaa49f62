import Derived.Test.YtignmnbgedmfbaaDoorRI
namespace Go.Proofs.YtignmnbgedmfbaaDoor
open Go.RowKit

def Marked (w : World) (v : Value) (n : Nat) : Prop := ∃ a cap, v = .slice a n cap ∧ (n = 0 ∨ ∃ b, a = some ⟨b, 0, none⟩ ∧ b < w.heap.size ∧ MarksAt w b n)
theorem Marked.below {w w' : World} {v : Value} {n : Nat} (h : Marked w v n) (hb : Below w.heap.size w w') : Marked w' v n := by
  obtain ⟨a, cap, hv, h⟩ := h
  refine ⟨a, cap, hv, ?_⟩
  rcases h with h | ⟨b, ha, hlt, hm⟩
  · exact .inl h
  · exact .inr ⟨b, ha, Nat.lt_of_lt_of_le hlt hb.size, marks_below hm hlt hb⟩

set_option maxHeartbeats 400000 in
theorem c42z (a : Option Addr) (cap : Nat) (w : World) :
    Calls Tryd.prog 42 #[.slice a 0 cap, .int .i64 1] w fun e w' => e = .returned (.int .i64 1) ∧ w' = w := by
  go_enter Tryd.func42, Tryd.ntmps42
  go_wp2_with fail
  go_loopw [1, 5] (fun q i wr => q = .int .i64 1 ∧ i = .int .i64 0 ∧ wr = w) (fun _ _ _ => 0)
  case atStart => exact ⟨rfl, rfl, rfl⟩
  case round =>
    obtain ⟨rfl, rfl, rfl⟩ := hrel
    go_wp2
    go_ret
    exact ⟨rfl, rfl⟩
set_option maxHeartbeats 400000 in
theorem c14z (a : Option Addr) (cap : Nat) (w : World) :
    Calls Tryd.prog 14 #[.agg #[.slice a 0 cap], .int .i64 1] w fun e w' => e = .returned (.int .i64 1) ∧ Below w.heap.size w w' := by
  go_enter Tryd.func14, Tryd.ntmps14
  go_wp2_with fail
  refine (c42z a cap _).mono ?_
  rintro e w1 ⟨rfl, hw⟩
  obtain rfl := hw.symm
  go_wp2
  go_ret
  exact ⟨rfl, (Below.refl _ _).alloc (Nat.le_refl _) _⟩
theorem c14u (v : Value) (is : List I3) (base : Nat) (w : World) (hown : w.ownsRow base 56 3 v is.length (insCells is)) (hn : is.length ≤ 300) :
    Calls Tryd.prog 14 #[.agg #[v], .int .i64 1] w fun e w' => e = .returned (.int .i64 (1 + 3 * (is.length : Int))) ∧ w.grownBy w' v.ownBlock ∧ Marked w' v is.length := by
  have hown' := hown
  rcases hown.2 with ⟨hv, h0⟩ | ⟨g, cap, cur, hv, hg, hh, hnc, _, hcs, _⟩
  · subst hv
    refine (c14z none 0 w).mono ?_
    rintro e w' ⟨rfl, hb⟩
    refine ⟨by rw [h0]; rfl, ⟨hb.os, hb.tape, hb.output, hb.size, fun k hk _ => hb.block k hk⟩, none, 0, by rw [h0], .inl h0⟩
  · subst hv
    have ho : Open3 w g is.length := ⟨blk_lt hh, fun j hj => by
      rw [Lib.cell_of_heap hh]
      exact ⟨cur[j]'(by rw [hcs]; exact Nat.lt_of_lt_of_le hj (Nat.mul_le_mul_right 3 hnc)), by rw [Array.getElem?_eq_getElem]⟩, fun j => Lib.frozen_of_heap hh j⟩
    refine (c14 (some ⟨g, 0, none⟩) g is.length cap w (.inr rfl) hn ho).mono ?_
    rintro e w' ⟨rfl, hb, ho', hm⟩
    refine ⟨rfl, ⟨hb.os, hb.tape, hb.output, hb.size, fun k hk hne => hb.block k hk (fun e => hne (by rw [e]; rfl))⟩, some ⟨g, 0, none⟩, cap, rfl, .inr ⟨g, rfl, ho'.1, hm⟩⟩
theorem c15u (v : Value) (n : Nat) (w : World) (hm : Marked w v n) (hn : n ≤ 300) :
    Calls Tryd.prog 15 #[.agg #[v], .int .i64 1] w fun e w' => e = .returned (.int .i64 (1 + 3 * (n : Int))) ∧ Below w.heap.size w w' := by
  obtain ⟨a, cap, rfl, h⟩ := hm
  rcases h with h | ⟨b, ha, hlt, hm⟩
  · exact c15 a 0 n cap w (.inl h) hn (.inl h) (fun j hj => by omega)
  · exact c15 a b n cap w (.inr ha) hn (.inr hlt) hm

set_option maxHeartbeats 2000000 in
set_option maxRecDepth 100000 in
theorem c4 (s : ByteArray) (w : World) (hs : s.size ≤ 9223372036854775807) (hsh : ShapesAt w) (hmx : MaxAt w) :
    Calls Tryd.prog 4 #[.string s] w fun e w' => e = .returned (.bool true) ∧ Below w.heap.size w w' := by
  have HSH : Hid (ShapesAt w) := hsh
  have HMX : Hid (MaxAt w) := hmx
  clear hsh hmx
  by_cases hbig : 1048576 < s.size
  · go_enter Tryd.func4, Tryd.ntmps4
    go_wp2
    go_ret
    exact ⟨rfl, Below.refl _ _⟩
  · go_enter Tryd.func4, Tryd.ntmps4
    go_wp2_with fail
    refine (c12 s _ (by omega)).mono ?_
    rintro e wa ⟨⟨is, ok, a, cap, rfl, hat, hrd⟩, hba⟩
    have HAT : Hid (InsAt wa a is) := hat
    have HRD : Hid (IsRead s.data.toList is ok) := hrd
    have hn : is.length ≤ 300 := by
      cases ok
      · rw [(hrd.2 rfl).1]; simp
      · have h1 := (hrd.1 rfl).2
        have := lines_ge is
        rw [h1.1] at this; omega
    have hB1 : Below w.heap.size w (wa.alloc (.cells #[.slice a is.length cap] 29)) := hba.alloc hba.size _
    clear hat hrd
    go_wp2_with fail
    refine (c13 s _ (by omega) (shapes_below HSH.out hB1) (max_below HMX.out hB1)).mono ?_
    rintro e wb ⟨⟨is', ok', v, rfl, hownb, hrd'⟩, hbb⟩
    obtain ⟨h1, h2⟩ := isRead_one HRD.out hrd'
    subst h1
    subst h2
    clear hrd'
    obtain ⟨a', cap', hv, hat'⟩ := own3_form hownb
    subst hv
    have hbb' : Below (wa.heap.size + 1) (wa.alloc (.cells #[.slice a is.length cap] 29)) wb := by have h := hbb; simp at h; exact h
    have hown1 : wb.ownsRow (wa.heap.size + 1) 56 3 (.slice a' is.length cap') is.length (insCells is) := by have h := hownb; simp at h; exact h
    have hA1 : Below wa.heap.size wa (wa.alloc (.cells #[.slice a is.length cap] 29)) := (Below.refl _ _).alloc (Nat.le_refl _) _
    have HATb : Hid (InsAt wb a is) := ins_below HAT.out (hA1.trans (hbb'.mono (by omega)))
    have HAT' : Hid (InsAt wb a' is) := hat'
    have hzb : wa.heap.size + 1 ≤ wb.heap.size := by have := hbb'.size; simpa using this
    have c0 : wb.cell? ⟨wa.heap.size, 0, none⟩ = some (.slice a is.length cap) := (hbb'.cell (p := ⟨wa.heap.size, 0, none⟩) (by simp)).trans (by simp [go_sem])
    have hBb : Below w.heap.size w wb := hB1.trans (hbb'.mono (by have := hba.size; omega))
    have c1 := past (by show wa.heap.size < wb.heap.size; omega) c0
    have hAb : ∀ o, Below wb.heap.size wb (wb.alloc o) := fun o => (Below.refl _ _).alloc (Nat.le_refl _) _
    have hWb : Below wa.heap.size wa wb := hA1.trans (hbb'.mono (by omega))
    clear hbb hownb hat' hbb'
    go_wp2_with fail
    refine (c11 a' a cap' cap is _ (by omega) (ins_below HAT'.out (hAb _)) (ins_below HATb.out (hAb _))).mono ?_
    rintro e wd ⟨rfl, hbd⟩
    have hbd' : Below (wb.heap.size + 1) (wb.alloc (.cells #[.slice a' is.length cap'] 29)) wd := by have h := hbd; simp at h; exact h
    have hbdb : Below wb.heap.size wb wd := (hAb _).trans (hbd'.mono (by omega))
    have hzd : wb.heap.size + 1 ≤ wd.heap.size := by have := hbd'.size; simpa using this
    have g1 : wd.cell? ⟨wb.heap.size, 0, none⟩ = some (.slice a' is.length cap') := (hbd'.cell (p := ⟨wb.heap.size, 0, none⟩) (by simp)).trans (by simp [go_sem])
    have c2 : wd.cell? ⟨wa.heap.size, 0, none⟩ = some (.slice a is.length cap) := (hbdb.cell (p := ⟨wa.heap.size, 0, none⟩) (by show wa.heap.size < wb.heap.size; omega)).trans c0
    have hownd : wd.ownsRow (wa.heap.size + 1) 56 3 (.slice a' is.length cap') is.length (insCells is) := ownsRow_below hown1 hbdb
    have HOB : Hid (∀ k, (Value.slice a' is.length cap').ownBlock = some k → wa.heap.size + 1 ≤ k ∧ k < wb.heap.size) := hown1.lt
    have HATd : Hid (InsAt wd a is) := ins_below HATb.out hbdb
    have hBd : Below w.heap.size w wd := hBb.trans (hbdb.mono (by have := hBb.size; omega))
    have hWd : Below wa.heap.size wa wd := hWb.trans (hbdb.mono (by omega))
    clear hbd hbd' hbdb c0 c1 hAb HAT' HATb hown1 hA1 hWb
    go_wp2_with fail
    refine (c14u _ is _ wd hownd hn).mono ?_
    rintro e we ⟨rfl, hgr, hmk⟩
    have g2 : we.cell? ⟨wb.heap.size, 0, none⟩ = some (.slice a' is.length cap') := (World.cell?_of_block (hgr.block wb.heap.size (by omega) (fun e => by have := (HOB.out _ e.symm).2; omega))).trans g1
    have c3 : we.cell? ⟨wa.heap.size, 0, none⟩ = some (.slice a is.length cap) := (World.cell?_of_block (hgr.block wa.heap.size (by omega) (fun e => by have := (HOB.out _ e.symm).1; omega))).trans c2
    have hBe : Below w.heap.size w we := hBd.grown hgr hBd.size (fun k hk => by have := (HOB.out k hk).1; have := hba.size; omega)
    have hWe : Below wa.heap.size wa we := hWd.grown hgr (by omega) (fun k hk => by have := (HOB.out k hk).1; omega)
    have hze : wd.heap.size ≤ we.heap.size := hgr.size
    have HMK : Hid (Marked we (.slice a' is.length cap') is.length) := hmk
    clear hgr hmk g1 c2 HATd hownd hWd hBd HOB
    go_wp2_with fail
    refine (c15u _ is.length we HMK.out hn).mono ?_
    rintro e wf ⟨rfl, hbf⟩
    have hBf : Below w.heap.size w wf := hBe.trans (hbf.mono hBe.size)
    have hWf : Below wa.heap.size wa wf := hWe.trans (hbf.mono (by omega))
    have g3 : wf.cell? ⟨wb.heap.size, 0, none⟩ = some (.slice a' is.length cap') := (hbf.cell (p := ⟨wb.heap.size, 0, none⟩) (by show wb.heap.size < we.heap.size; omega)).trans g2
    have c4 : wf.cell? ⟨wa.heap.size, 0, none⟩ = some (.slice a is.length cap) := (hbf.cell (p := ⟨wa.heap.size, 0, none⟩) (by show wa.heap.size < we.heap.size; omega)).trans c3
    have HMf : Hid (Marked wf (.slice a' is.length cap') is.length) := HMK.out.below hbf
    have hzf : we.heap.size ≤ wf.heap.size := hbf.size
    clear hbf g2 c3 HMK hWe hBe
    go_wp2_with fail
    refine (c13 s _ (by omega) (shapes_below HSH.out hBf) (max_below HMX.out hBf)).mono ?_
    rintro e wg ⟨⟨is', ok', v2, rfl, hown2, hrd'⟩, hbg⟩
    obtain ⟨h1, h2⟩ := isRead_one HRD.out hrd'
    subst h1
    subst h2
    clear hrd'
    obtain ⟨a2, cap2, hv2, hat2⟩ := own3_form hown2
    subst hv2
    have hzg : wf.heap.size ≤ wg.heap.size := hbg.size
    have hBg : Below w.heap.size w wg := hBf.trans (hbg.mono hBf.size)
    have hWg : Below wa.heap.size wa wg := hWf.trans (hbg.mono (by omega))
    have g4 : wg.cell? ⟨wb.heap.size, 0, none⟩ = some (.slice a' is.length cap') := (hbg.cell (p := ⟨wb.heap.size, 0, none⟩) (by show wb.heap.size < wf.heap.size; omega)).trans g3
    have c5 : wg.cell? ⟨wa.heap.size, 0, none⟩ = some (.slice a is.length cap) := (hbg.cell (p := ⟨wa.heap.size, 0, none⟩) (by show wa.heap.size < wf.heap.size; omega)).trans c4
    have c6 := past (by show wa.heap.size < wg.heap.size; omega) c5
    have HMg : Hid (Marked wg (.slice a' is.length cap') is.length) := HMf.out.below hbg
    have HAT2 : Hid (InsAt wg a2 is) := hat2
    have HATg : Hid (InsAt wg a is) := ins_below HAT.out hWg
    have hAg : ∀ o, Below wg.heap.size wg (wg.alloc o) := fun o => (Below.refl _ _).alloc (Nat.le_refl _) _
    clear hbg g3 c4 HMf hWf hBf hat2 hown2
    go_wp2_with fail
    refine (c11 a2 a cap2 cap is _ (by omega) (ins_below HAT2.out (hAg _)) (ins_below HATg.out (hAg _))).mono ?_
    rintro e wh ⟨rfl, hbh⟩
    have hbh' : Below (wg.heap.size + 1) (wg.alloc (.cells #[.slice a2 is.length cap2] 29)) wh := by have h := hbh; simp at h; exact h
    have hbhg : Below wg.heap.size wg wh := (hAg _).trans (hbh'.mono (by omega))
    have g5 : wh.cell? ⟨wb.heap.size, 0, none⟩ = some (.slice a' is.length cap') := (hbhg.cell (p := ⟨wb.heap.size, 0, none⟩) (by show wb.heap.size < wg.heap.size; omega)).trans g4
    have HMh : Hid (Marked wh (.slice a' is.length cap') is.length) := HMg.out.below hbhg
    have hBh : Below w.heap.size w wh := hBg.trans (hbhg.mono hBg.size)
    clear hbh hbh' hbhg g4 c5 c6 HMg hAg
    go_wp2_with fail
    refine (c15u _ is.length wh HMh.out hn).mono ?_
    rintro e wi ⟨rfl, hbi⟩
    go_wp2
    go_ret
    exact ⟨rfl, hBh.trans (hbi.mono hBh.size)⟩
end Go.Proofs.YtignmnbgedmfbaaDoor
