import Derived.Test.YtjcgimlpnmbbbaaDoorP9
namespace Go.Proofs.YtjcgimlpnmbbbaaDoor
set_option linter.unusedSimpArgs false
open Go.RowKit

set_option maxHeartbeats 2000000 in
theorem c3 (a : Option Addr) (cap : Nat) (is : List M3) (w : World) (hs : ∀ i, (is.getD i m3z).le 9223372036854775807) (hl : is.length ≤ 9223372036854775807) (hat : MksAt w a is) (hv : VarsAt w) :
    Calls Tryd.prog 3 #[.slice a is.length cap] w fun e w' => e = .returned (.bool true) ∧ Below w.heap.size w w' := by
  have HAT : Hid (MksAt w a is) := hat
  have HVA : Hid (VarsAt w) := hv
  clear hat hv
  go_enter Tryd.func3, Tryd.ntmps3
  go_wp2_with fail
  refine (c5 a cap is w hs hl HAT.out).mono ?_
  rintro e w1 ⟨⟨r, rfl, hr⟩, hB1⟩
  by_cases hr0 : r < 0
  · clear hr
    go_wp2
    go_ret
    exact ⟨rfl, hB1⟩
  · obtain ⟨hl1, hs1, _⟩ := hr (by omega)
    have hs2 : Hid (∀ i, (is.getD i m3z).le 1048576) := hs1
    clear hs hs1 hr
    go_wp2_with fail
    refine (c7 a cap is w1 hl1 (mks_below HAT.out hB1)).mono ?_
    rintro e w2 ⟨⟨rfl, h2⟩, hb2⟩
    have H2 : Hid (MksAt w2 (some ⟨w1.heap.size, 0, none⟩) is) := h2
    have hB2 : Below w.heap.size w w2 := hB1.trans (hb2.mono hB1.size)
    clear h2 hb2
    go_wp2_with fail
    refine (c6 _ is.length is w2 hs2.out hl1 H2.out).mono ?_
    rintro e w3 ⟨rfl, hb3⟩
    have hB3 : Below w.heap.size w w3 := hB2.trans (hb3.mono hB2.size)
    clear hb3
    go_wp2_with fail
    refine (c7 a cap is w3 hl1 (mks_below HAT.out hB3)).mono ?_
    rintro e w4 ⟨⟨rfl, h4⟩, hb4⟩
    have H4 : Hid (MksAt w4 (some ⟨w3.heap.size, 0, none⟩) is) := h4
    have hB4 : Below w.heap.size w w4 := hB3.trans (hb4.mono hB3.size)
    clear h4 hb4
    go_wp2_with fail
    refine (c8 _ is.length is w4 hs2.out hl1 H4.out (HVA.out.below hB4)).mono ?_
    rintro e w5 ⟨rfl, hb5⟩
    have hB5 : Below w.heap.size w w5 := hB4.trans (hb5.mono hB4.size)
    have H5 : Hid (MksAt w5 (some ⟨w3.heap.size, 0, none⟩) is) := mks_below H4.out hb5
    clear hb5
    go_wp2_with fail
    refine (c7 a cap is w5 hl1 (mks_below HAT.out hB5)).mono ?_
    rintro e w6 ⟨⟨rfl, h6⟩, hb6⟩
    have H6 : Hid (MksAt w6 (some ⟨w5.heap.size, 0, none⟩) is) := h6
    have H6' : Hid (MksAt w6 (some ⟨w3.heap.size, 0, none⟩) is) := mks_below H5.out hb6
    have hB6 : Below w.heap.size w w6 := hB5.trans (hb6.mono hB5.size)
    clear h6 hb6
    go_wp2_with fail
    refine (c9 _ _ is.length is.length is w6 hl1 H6'.out H6.out).mono ?_
    rintro e w7 ⟨rfl, hb7⟩
    go_wp2
    go_ret
    exact ⟨rfl, hB6.trans (hb7.mono hB6.size)⟩
end Go.Proofs.YtjcgimlpnmbbbaaDoor
