import Derived.Test.YtjcgimlpnmbbbaaDoorQT
namespace Go.Proofs.YtjcgimlpnmbbbaaDoor
open Go.RowKit
theorem c28 (s : ByteArray) (w : World) (hs : s.size ≤ 1048576) (hv : VarsR w) :
    Calls Tryd.prog 28 #[.string s] w fun e w' => Is28 w s.data.toList e w' ∧ Below w.heap.size w w' := by
  by_cases h : 300 < s.size
  · exact c28_long s w hs h hv
  · have := c28_short s.data.toList w (by simp; omega) hv
    rw [ofL_self] at this
    exact this
def Is11 (w : World) (l : List UInt8) (e : Ending) (w' : World) : Prop := ∃ (ms : List M3) (ok : Bool) (v : Value), e = .returned (.tuple #[v, .bool ok]) ∧ w'.ownsRow w.heap.size 36 3 v ms.length (mkCells ms) ∧ IsPlan l ms ok
set_option maxHeartbeats 2000000 in
theorem c11 (s : ByteArray) (w : World) (hs : s.size ≤ 1048576) (hv : VarsR w) :
    Calls Tryd.prog 11 #[.string s] w fun e w' => Is11 w s.data.toList e w' ∧ Below w.heap.size w w' := by
  go_enter Tryd.func11, Tryd.ntmps11
  go_wp2_with fail
  refine (c28 s w hs hv).mono ?_
  rintro e w1 ⟨⟨ms, v, er, rfl, hown, hor⟩, hb1⟩
  obtain ⟨ao, cp, rfl⟩ := row_form3 hown
  rcases hor with ⟨rfl, hp⟩ | ⟨⟨n, ty, va, rfl⟩, hp⟩
  · have HP : Hid (IsPlan s.data.toList ms true) := hp
    clear hp
    go_wp2_with fail
    refine (c18_nil _).mono ?_
    rintro e w2 ⟨rfl, hb2⟩
    have hown2 := ownsRow_below hown hb2
    have hB2 := hb1.trans (hb2.mono hb1.size)
    go_wp2
    go_ret2
    exact ⟨⟨ms, true, _, rfl, hown2, HP.out⟩, hB2⟩
  · have HP : Hid (IsPlan s.data.toList [] false) := hp
    clear hp
    go_wp2_with fail
    refine (c18_hit n ty va _ (hv.below hb1).va.g6).mono ?_
    rintro e w2 ⟨rfl, hb2⟩
    have hB2 := hb1.trans (hb2.mono hb1.size)
    go_wp2
    go_ret2
    exact ⟨⟨[], false, _, rfl, World.ownsRow_nil _ _ _ _, HP.out⟩, hB2⟩
end Go.Proofs.YtjcgimlpnmbbbaaDoor
