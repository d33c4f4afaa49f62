import Derived.Test.YtggcgnfockpgmaaGreatDoorQG
import Derived.Test.YtggcgnfockpgmaaGreatDoorP9
import Derived.Lib.CountLaws
namespace Go.Proofs.YtggcgnfockpgmaaGreatDoor
open Go.RowKit
set_option maxHeartbeats 2000000 in
set_option maxRecDepth 100000 in
theorem c64 (s : ByteArray) (w : World) :
    Calls Tryz.prog 64 #[.string s, .string ⟨#[10]⟩] w fun e w' => (∃ n, e = .returned (.int .i64 n)) ∧ w' = w := by
  go_enter Tryz.func64, Tryz.ntmps64
  go_wp2
  rw [run_callFunc_extern Tryz.func79 (by kernel_rfl) (by kernel_rfl) (by kernel_rfl) (e := Extern.BytealgCount.count) (by kernel_rfl), Lib.run_countString]
  simp only [Result.andThen]
  rw [Oper.upon_value]
  go_wp2
  go_ret
  exact ⟨⟨_, rfl⟩, rfl⟩

/-- All the variables that reading looks at. -/
structure VarsR (w : World) : Prop where
  va : VarsAt w
  g3 : ∃ t v, w.cell? ⟨1, 0, none⟩ = some (.iface t v)
  g4 : ∃ t v, w.cell? ⟨2, 0, none⟩ = some (.iface t v)
  g5 : ∃ t v, w.cell? ⟨3, 0, none⟩ = some (.iface t v)
  mx : MaxAt w
theorem VarsR.below {w w' : World} (h : VarsR w) (hb : Below w.heap.size w w') : VarsR w' := by
  have hp := h.mx.1
  obtain ⟨t3, v3, h3⟩ := h.g3
  obtain ⟨t4, v4, h4⟩ := h.g4
  obtain ⟨t5, v5, h5⟩ := h.g5
  exact ⟨h.va.below hb, ⟨t3, v3, (hb.cell (p := ⟨1, 0, none⟩) (by show 1 < w.heap.size; omega)).trans h3⟩, ⟨t4, v4, (hb.cell (p := ⟨2, 0, none⟩) (by show 2 < w.heap.size; omega)).trans h4⟩, ⟨t5, v5, (hb.cell (p := ⟨3, 0, none⟩) (by show 3 < w.heap.size; omega)).trans h5⟩, max_below h.mx hb⟩
theorem row3n (w : World) (x y z : Value) (t : TypeId) : ∀ j u, [x, y, z][j]? = some u → (w.alloc (.cells #[x, y, z] t)).cell? ((⟨w.heap.size, 0, none⟩ : Addr).add j) = some u := by
  intro j u h
  match j, h with
  | 0, h => simp at h; subst h; simp [Addr.add]
  | 1, h => simp at h; subst h; simp [Addr.add]
  | 2, h => simp at h; subst h; simp [Addr.add]
theorem row3g {w : World} {g : Nat} (hg : g = w.heap.size) (x y z : Value) (t : TypeId) : ∀ j u, [x, y, z][j]? = some u → (w.alloc (.cells #[x, y, z] t)).cell? ((⟨g, 0, none⟩ : Addr).add j) = some u := by
  subst hg; exact row3n w x y z t
theorem row_form3 {w : World} {B : Nat} {e : TypeId} {v : Value} {n : Nat} {xs : List Value} (h : w.ownsRow B e 3 v n xs) : ∃ ao c, v = .slice ao n c := by
  rcases h.2 with ⟨hv, h0⟩ | ⟨g, cap, cur, hv, _⟩
  · exact ⟨none, 0, by rw [hv, h0]⟩
  · exact ⟨_, _, hv⟩
theorem owns_mono {w : World} {B B' : Nat} {e : TypeId} {size : Nat} {v : Value} {n : Nat} {xs : List Value} (h : w.ownsRow B e size v n xs) (hB : B' ≤ B) : w.ownsRow B' e size v n xs := by
  refine ⟨h.1, ?_⟩
  rcases h.2 with h2 | ⟨g, cap, cur, hv, hg, r⟩
  · exact .inl h2
  · exact .inr ⟨g, cap, cur, hv, by omega, r⟩
def strOf : Value → Nat | .string s => s.size | _ => 0
theorem ofL_self (s : ByteArray) : ofL s.data.toList = s := (ext_ofL rfl).symm
def Is28 (w : World) (l : List UInt8) (e : Ending) (w' : World) : Prop := ∃ (ms : List M3) (v er : Value), e = .returned (.tuple #[v, er]) ∧ w'.ownsRow w.heap.size 48 3 v ms.length (mkCells ms) ∧ ((er = .nilIface ∧ IsPlan l ms true) ∨ ((∃ n ty va, er = .iface 106 (.agg #[.int .i64 n, .iface ty va])) ∧ IsPlan l [] false))
theorem is28_no {w w' : World} {l : List UInt8} (n : Int) (ty : TypeId) (va : Value) (h : IsPlan l [] false) : Is28 w l (.returned (.tuple #[.slice none 0 0, .iface 106 (.agg #[.int .i64 n, .iface ty va])])) w' := ⟨[], _, _, rfl, World.ownsRow_nil _ _ _ _, .inr ⟨⟨n, ty, va, rfl⟩, h⟩⟩

set_option maxHeartbeats 4000000 in
set_option maxRecDepth 100000 in
theorem c53_long (s : ByteArray) (w : World) (hs : s.size ≤ 1048576) (h300 : 300 < s.size) (hv : VarsR w) :
    Calls Tryz.prog 53 #[.string s] w fun e w' => Is28 w s.data.toList e w' ∧ Below w.heap.size w w' := by
  have HR : Hid (IsPlan s.data.toList [] false) := read_long (by simpa using h300)
  obtain ⟨t3, v3, g3⟩ := hv.g3
  go_enter Tryz.func53, Tryz.ntmps53
  go_wp2_with fail
  go_region_with (go_at_call 64; refine (c64 _ _).mono ?_; rintro e w' ⟨⟨n, rfl⟩, rfl⟩)
  all_goals go_wp2
  all_goals go_ret2
  all_goals exact ⟨is28_no _ _ _ HR.out, by first | exact Below.refl _ _ | exact (Below.refl _ _).drew⟩
end Go.Proofs.YtggcgnfockpgmaaGreatDoor
