import Derived.Test.YtjcgimlpnmbbbaaGreatDoorQU
import Derived.Test.YtjcgimlpnmbbbaaGreatDoorQV
import Derived.Test.YtjcgimlpnmbbbaaGreatDoorQB
namespace Go.Proofs.YtjcgimlpnmbbbaaGreatDoor
open Go.RowKit

def Marked (w : World) (v : Value) (n : Nat) : Prop := ∃ a cap, v = .slice a n cap ∧ (n = 0 ∨ ∃ b, a = some ⟨b, 0, none⟩ ∧ b < w.heap.size ∧ MarksAt w b n)
theorem Marked.below {w w' : World} {v : Value} {n : Nat} (h : Marked w v n) (hb : Below w.heap.size w w') : Marked w' v n := by
  obtain ⟨a, cap, hv, h⟩ := h
  refine ⟨a, cap, hv, ?_⟩
  rcases h with h | ⟨b, ha, hlt, hm⟩
  · exact .inl h
  · exact .inr ⟨b, ha, Nat.lt_of_lt_of_le hlt hb.size, marks_below hm hlt hb⟩

set_option maxHeartbeats 400000 in
theorem c11z (a : Option Addr) (cap : Nat) (w : World) :
    Calls Tryz.prog 11 #[.slice a 0 cap, .int .i64 1] w fun e w' => e = .returned (.int .i64 1) ∧ w' = w := by
  go_enter Tryz.func11, Tryz.ntmps11
  go_wp2_with fail
  go_loopw [1, 5] (fun q i wr => q = .int .i64 1 ∧ i = .int .i64 0 ∧ wr = w) (fun _ _ _ => 0)
  case atStart => exact ⟨rfl, rfl, rfl⟩
  case round =>
    obtain ⟨rfl, rfl, rfl⟩ := hrel
    go_wp2
    go_ret
    exact ⟨rfl, rfl⟩
theorem c11u (v : Value) (is : List M3) (base : Nat) (w : World) (hown : w.ownsRow base 45 3 v is.length (mkCells is)) (hn : is.length ≤ 300) :
    Calls Tryz.prog 11 #[v, .int .i64 1] w fun e w' => e = .returned (.int .i64 (1 + 3 * (is.length : Int))) ∧ w.grownBy w' v.ownBlock ∧ Marked w' v is.length := by
  rcases hown.2 with ⟨hv, h0⟩ | ⟨g, cap, cur, hv, hg, hh, hnc, _, hcs, _⟩
  · subst hv
    refine (c11z none 0 w).mono ?_
    rintro e w' ⟨rfl, rfl⟩
    refine ⟨by rw [h0]; rfl, ⟨rfl, rfl, rfl, Nat.le_refl _, fun k hk _ => rfl⟩, none, 0, by rw [h0], .inl h0⟩
  · subst hv
    have ho : Open3 w g is.length := ⟨blk_lt hh, fun j hj => by
      rw [Lib.cell_of_heap hh]
      exact ⟨cur[j]'(by rw [hcs]; exact Nat.lt_of_lt_of_le hj (Nat.mul_le_mul_right 3 hnc)), by rw [Array.getElem?_eq_getElem]⟩, fun j => Lib.frozen_of_heap hh j⟩
    refine (c11 (some ⟨g, 0, none⟩) g is.length cap w (.inr rfl) hn ho).mono ?_
    rintro e w' ⟨rfl, hb, ho', hm⟩
    refine ⟨rfl, ⟨hb.os, hb.tape, hb.output, hb.size, fun k hk hne => hb.block k hk (fun e => hne (by rw [e]; rfl))⟩, some ⟨g, 0, none⟩, cap, rfl, .inr ⟨g, rfl, ho'.1, hm⟩⟩
theorem c12u (v : Value) (n : Nat) (w : World) (hm : Marked w v n) (hn : n ≤ 300) :
    Calls Tryz.prog 12 #[v, .int .i64 1] w fun e w' => e = .returned (.int .i64 (1 + 3 * (n : Int))) ∧ Below w.heap.size w w' := by
  obtain ⟨a, cap, rfl, h⟩ := hm
  rcases h with h | ⟨b, ha, hlt, hm⟩
  · exact c12 a 0 n cap w (.inl h) hn (.inl h) (fun j hj => by omega)
  · exact c12 a b n cap w (.inr ha) hn (.inr hlt) hm

end Go.Proofs.YtjcgimlpnmbbbaaGreatDoor
