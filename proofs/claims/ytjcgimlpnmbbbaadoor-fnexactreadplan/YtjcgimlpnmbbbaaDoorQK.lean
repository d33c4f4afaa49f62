import Derived.Test.YtjcgimlpnmbbbaaDoorQU
import Derived.Test.YtjcgimlpnmbbbaaDoorQV
import Derived.Test.YtjcgimlpnmbbbaaDoorQB
namespace Go.Proofs.YtjcgimlpnmbbbaaDoor
open Go.RowKit

def Marked (w : World) (v : Value) (n : Nat) : Prop := ∃ a cap, v = .slice a n cap ∧ (n = 0 ∨ ∃ b, a = some ⟨b, 0, none⟩ ∧ b < w.heap.size ∧ MarksAt w b n)
theorem Marked.below {w w' : World} {v : Value} {n : Nat} (h : Marked w v n) (hb : Below w.heap.size w w') : Marked w' v n := by
  obtain ⟨a, cap, hv, h⟩ := h
  refine ⟨a, cap, hv, ?_⟩
  rcases h with h | ⟨b, ha, hlt, hm⟩
  · exact .inl h
  · exact .inr ⟨b, ha, Nat.lt_of_lt_of_le hlt hb.size, marks_below hm hlt hb⟩

set_option maxHeartbeats 400000 in
theorem c12z (a : Option Addr) (cap : Nat) (w : World) :
    Calls Tryd.prog 12 #[.slice a 0 cap, .int .i64 1] w fun e w' => e = .returned (.int .i64 1) ∧ w' = w := by
  go_enter Tryd.func12, Tryd.ntmps12
  go_wp2_with fail
  go_loopw [1, 5] (fun q i wr => q = .int .i64 1 ∧ i = .int .i64 0 ∧ wr = w) (fun _ _ _ => 0)
  case atStart => exact ⟨rfl, rfl, rfl⟩
  case round =>
    obtain ⟨rfl, rfl, rfl⟩ := hrel
    go_wp2
    go_ret
    exact ⟨rfl, rfl⟩
theorem c12u (v : Value) (is : List M3) (base : Nat) (w : World) (hown : w.ownsRow base 36 3 v is.length (mkCells is)) (hn : is.length ≤ 300) :
    Calls Tryd.prog 12 #[v, .int .i64 1] w fun e w' => e = .returned (.int .i64 (1 + 3 * (is.length : Int))) ∧ w.grownBy w' v.ownBlock ∧ Marked w' v is.length := by
  rcases hown.2 with ⟨hv, h0⟩ | ⟨g, cap, cur, hv, hg, hh, hnc, _, hcs, _⟩
  · subst hv
    refine (c12z none 0 w).mono ?_
    rintro e w' ⟨rfl, rfl⟩
    refine ⟨by rw [h0]; rfl, ⟨rfl, rfl, rfl, Nat.le_refl _, fun k hk _ => rfl⟩, none, 0, by rw [h0], .inl h0⟩
  · subst hv
    have ho : Open3 w g is.length := ⟨blk_lt hh, fun j hj => by
      rw [Lib.cell_of_heap hh]
      exact ⟨cur[j]'(by rw [hcs]; exact Nat.lt_of_lt_of_le hj (Nat.mul_le_mul_right 3 hnc)), by rw [Array.getElem?_eq_getElem]⟩, fun j => Lib.frozen_of_heap hh j⟩
    refine (c12 (some ⟨g, 0, none⟩) g is.length cap w (.inr rfl) hn ho).mono ?_
    rintro e w' ⟨rfl, hb, ho', hm⟩
    refine ⟨rfl, ⟨hb.os, hb.tape, hb.output, hb.size, fun k hk hne => hb.block k hk (fun e => hne (by rw [e]; rfl))⟩, some ⟨g, 0, none⟩, cap, rfl, .inr ⟨g, rfl, ho'.1, hm⟩⟩
theorem c13u (v : Value) (n : Nat) (w : World) (hm : Marked w v n) (hn : n ≤ 300) :
    Calls Tryd.prog 13 #[v, .int .i64 1] w fun e w' => e = .returned (.int .i64 (1 + 3 * (n : Int))) ∧ Below w.heap.size w w' := by
  obtain ⟨a, cap, rfl, h⟩ := hm
  rcases h with h | ⟨b, ha, hlt, hm⟩
  · exact c13 a 0 n cap w (.inl h) hn (.inl h) (fun j hj => by omega)
  · exact c13 a b n cap w (.inr ha) hn (.inr hlt) hm

set_option maxHeartbeats 4000000 in
set_option maxRecDepth 100000 in
theorem c4 (s : ByteArray) (w : World) (hs : s.size ≤ 9223372036854775807) (hv : VarsR w) :
    Calls Tryd.prog 4 #[.string s] w fun e w' => e = .returned (.bool true) ∧ Below w.heap.size w w' := by
  have HV : Hid (VarsR w) := hv
  clear hv
  by_cases hbig : 1048576 < s.size
  · go_enter Tryd.func4, Tryd.ntmps4
    go_wp2
    go_ret
    exact ⟨rfl, Below.refl _ _⟩
  · go_enter Tryd.func4, Tryd.ntmps4
    go_wp2_with fail
    refine (c10 s _ (by omega)).mono ?_
    rintro e wa ⟨⟨is, ok, a, cap, rfl, hat, hrd⟩, hba⟩
    have HAT : Hid (MksAt wa a is) := hat
    have HRD : Hid (IsPlan s.data.toList is ok) := hrd
    have hn : is.length ≤ 300 := by
      cases ok
      · rw [(hrd.2 rfl).1]; simp
      · have h1 := (hrd.1 rfl).2
        have := lines_ge is
        rw [h1.1] at this; omega
    clear hat hrd
    go_wp2_with fail
    refine (c11 s _ (by omega) (HV.out.below hba)).mono ?_
    rintro e wb ⟨⟨is', ok', v, rfl, hownb, hrd'⟩, hbb⟩
    obtain ⟨h1, h2⟩ := isPlan_one HRD.out hrd'
    subst h1
    subst h2
    clear hrd'
    obtain ⟨a', cap', hv, hat'⟩ := own3_form hownb
    subst hv
    have hza : w.heap.size ≤ wa.heap.size := hba.size
    have hzb : wa.heap.size ≤ wb.heap.size := hbb.size
    have hBb : Below w.heap.size w wb := hba.trans (hbb.mono hza)
    have HC9 := c9 a' a cap' cap is wb (by omega) hat' (mks_below HAT.out hbb)
    go_wp2_with fail
    refine HC9.mono ?_
    rintro e wd ⟨rfl, hbd⟩
    have hBd : Below w.heap.size w wd := hBb.trans (hbd.mono hBb.size)
    have hWd : Below wa.heap.size wa wd := hbb.trans (hbd.mono hzb)
    have hownd := ownsRow_below hownb hbd
    have HOB : Hid (∀ k, (Value.slice a' is.length cap').ownBlock = some k → wa.heap.size ≤ k) := fun k hk => (hownb.lt k hk).1
    clear HC9 hat'
    go_wp2_with fail
    refine (c12u _ is _ wd hownd hn).mono ?_
    rintro e we ⟨rfl, hgr, hmk⟩
    have hBe : Below w.heap.size w we := hBd.grown hgr hBd.size (fun k hk => by have := HOB.out k hk; omega)
    have hWe : Below wa.heap.size wa we := hWd.grown hgr hWd.size (fun k hk => HOB.out k hk)
    have HMK : Hid (Marked we (.slice a' is.length cap') is.length) := hmk
    clear hgr hmk hownd hownb hbd hbb hBb hBd hWd HOB
    go_wp2_with fail
    refine (c13u _ is.length we HMK.out hn).mono ?_
    rintro e wf ⟨rfl, hbf⟩
    have hBf : Below w.heap.size w wf := hBe.trans (hbf.mono hBe.size)
    have hWf : Below wa.heap.size wa wf := hWe.trans (hbf.mono hWe.size)
    have HMf : Hid (Marked wf (.slice a' is.length cap') is.length) := HMK.out.below hbf
    clear hbf HMK hWe hBe
    go_wp2_with fail
    refine (c11 s _ (by omega) (HV.out.below hBf)).mono ?_
    rintro e wg ⟨⟨is2, ok2, v2, rfl, howng, hrd2⟩, hbg⟩
    obtain ⟨h1, h2⟩ := isPlan_one HRD.out hrd2
    subst h1
    subst h2
    clear hrd2
    obtain ⟨a2, cap2, hv, hat2⟩ := own3_form howng
    subst hv
    have hBg : Below w.heap.size w wg := hBf.trans (hbg.mono hBf.size)
    have hWg : Below wa.heap.size wa wg := hWf.trans (hbg.mono hWf.size)
    have HMg : Hid (Marked wg (.slice a' is.length cap') is.length) := HMf.out.below hbg
    have HC9 := c9 a2 a cap2 cap is wg (by omega) hat2 (mks_below HAT.out hWg)
    clear HMf hbg howng hat2 HAT
    go_wp2_with fail
    refine HC9.mono ?_
    rintro e wh ⟨rfl, hbh⟩
    have hBh : Below w.heap.size w wh := hBg.trans (hbh.mono hBg.size)
    have HMh : Hid (Marked wh (.slice a' is.length cap') is.length) := HMg.out.below hbh
    clear HMg hbh HC9
    go_wp2_with fail
    refine (c13u _ is.length wh HMh.out hn).mono ?_
    rintro e wi ⟨rfl, hbi⟩
    have hBi : Below w.heap.size w wi := hBh.trans (hbi.mono hBh.size)
    go_wp2
    go_ret
    exact ⟨rfl, hBi⟩
end Go.Proofs.YtjcgimlpnmbbbaaDoor
