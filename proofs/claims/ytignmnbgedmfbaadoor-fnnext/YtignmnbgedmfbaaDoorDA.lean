import Derived.Test.YtignmnbgedmfbaaDoorRB
import Derived.Test.YtignmnbgedmfbaaDoorN2
import Derived.Laws.Bits64
namespace Go.Proofs.YtignmnbgedmfbaaDoor
open Go.RowKit

theorem xor_nonneg (x y : Int) (hx : 0 ≤ x) (hx1 : x < 4294967296) (hy : 0 ≤ y) (hy1 : y < 4294967296) : 0 ≤ bits .xor .i64 x y ∧ bits .xor .i64 x y < 4294967296 := by
  obtain ⟨a, rfl⟩ := Int.eq_ofNat_of_zero_le hx
  obtain ⟨b, rfl⟩ := Int.eq_ofNat_of_zero_le hy
  have ha : a < 4294967296 := by omega
  have hb : b < 4294967296 := by omega
  have hxor : a ^^^ b < 2 ^ 32 := Nat.xor_lt_two_pow (by omega) (by omega)
  have h1 : (BitVec.ofInt 64 (a : Int)).toNat = a := by
    rw [BitVec.ofInt_natCast, BitVec.toNat_ofNat]; exact Nat.mod_eq_of_lt (by omega)
  have h2 : (BitVec.ofInt 64 (b : Int)).toNat = b := by
    rw [BitVec.ofInt_natCast, BitVec.toNat_ofNat]; exact Nat.mod_eq_of_lt (by omega)
  have e : bits .xor .i64 (a : Int) (b : Int) = IntKind.i64.wrap ((BitVec.ofInt 64 (a : Int) ^^^ BitVec.ofInt 64 (b : Int)).toNat : Int) := rfl
  rw [e, BitVec.toNat_xor, h1, h2, IntKind.wrap_i64]
  omega

theorem tmod_in {x n : Int} (hx : 0 ≤ x) (hn : 1 ≤ n) : 0 ≤ x.tmod n ∧ x.tmod n < n := by
  rw [Int.tmod_eq_emod_of_nonneg hx]
  exact ⟨Int.emod_nonneg _ (by omega), Int.emod_lt_of_pos _ (by omega)⟩
theorem emod_in {x n : Int} (hn : 1 ≤ n) : 0 ≤ x % n ∧ x % n < n := ⟨Int.emod_nonneg _ (by omega), Int.emod_lt_of_pos _ (by omega)⟩

set_option maxHeartbeats 1000000 in
theorem pick_in (w : World) (q b off L cap p : Nat) (n : Int) (hn1 : 1 ≤ n) (hn2 : n ≤ 1000000) (hp : p ≤ 1000000)
    (c0 : w.cell? ⟨q, 0, none⟩ = some (.slice (some ⟨b, off, none⟩) L cap)) (c1 : w.cell? ⟨q, 1, none⟩ = some (.int .i64 p)) (fz : w.frozen? ⟨q, 1, none⟩ = false)
    (hl : L ≤ 2000) (hlt : p < L) (z1 : Int) (hz1 : 0 ≤ z1 ∧ z1 ≤ 255) (hc1 : w.cell? ⟨b, off + p, none⟩ = some (.int .u8 z1)) (hbq : b ≠ q) :
    Calls Tryd.prog 46 #[.pointer (some ⟨q, 0, none⟩), .int .i64 n] w fun e w' => (∃ r : Int, e = .returned (.int .i64 r) ∧ 0 ≤ r ∧ r < n) ∧ ∃ nq, w' = (w.setCell ⟨q, 1, none⟩ (.int .i64 (p + 1))).drewN nq := by
  have hL0 : ¬ L = 0 := by omega
  have hne : ((L : Int) == 0) = false := by simp only [beq_eq_false_iff_ne]; omega
  go_enter Tryd.func46, Tryd.ntmps46
  go_wp2
  go_ret
  exact ⟨⟨_, rfl, emod_in hn1⟩, 0, rfl⟩

set_option maxHeartbeats 1000000 in
theorem pick_nil (w : World) (q cap p : Nat) (a : Option Addr) (n : Int) (hn1 : 1 ≤ n) (hn2 : n ≤ 1000000) (hp : p ≤ 1000000)
    (c0 : w.cell? ⟨q, 0, none⟩ = some (.slice a 0 cap)) (c1 : w.cell? ⟨q, 1, none⟩ = some (.int .i64 p)) (fz : w.frozen? ⟨q, 1, none⟩ = false) :
    Calls Tryd.prog 46 #[.pointer (some ⟨q, 0, none⟩), .int .i64 n] w fun e w' => (∃ r : Int, e = .returned (.int .i64 r) ∧ 0 ≤ r ∧ r < n) ∧ ∃ nq, w' = (w.setCell ⟨q, 1, none⟩ (.int .i64 (p + 1))).drewN nq := by
  go_enter Tryd.func46, Tryd.ntmps46
  go_wp2
  go_ret
  exact ⟨⟨0, rfl, by omega, by omega⟩, 0, rfl⟩

set_option maxHeartbeats 1000000 in
theorem pick_out (w : World) (q : Nat) (b off : Nat) (L : Nat) (cap : Nat) (p : Nat) (n : Int) (hn1 : 1 ≤ n) (hn2 : n ≤ 1000000) (hp : p ≤ 1000000)
    (c0 : w.cell? ⟨q, 0, none⟩ = some (.slice (some ⟨b, off, none⟩) L cap)) (c1 : w.cell? ⟨q, 1, none⟩ = some (.int .i64 p)) (fz : w.frozen? ⟨q, 1, none⟩ = false)
    (hl : L ≤ 2000) (h0 : 0 < L) (hlt : L ≤ p) (z1 z2 : Int) (hz1 : 0 ≤ z1 ∧ z1 ≤ 255) (hz2 : 0 ≤ z2 ∧ z2 ≤ 255)
    (hc1 : w.cell? ⟨b, off + p % L, none⟩ = some (.int .u8 z1)) (hc2 : w.cell? ⟨b, off + (p * 7 + 3) % L, none⟩ = some (.int .u8 z2)) (hbq : b ≠ q) :
    Calls Tryd.prog 46 #[.pointer (some ⟨q, 0, none⟩), .int .i64 n] w fun e w' => (∃ r : Int, e = .returned (.int .i64 r) ∧ 0 ≤ r ∧ r < n) ∧ ∃ nq, w' = (w.setCell ⟨q, 1, none⟩ (.int .i64 (p + 1))).drewN nq := by
  have hL0 : ¬ L = 0 := by omega
  have hne : ((L : Int) == 0) = false := by simp only [beq_eq_false_iff_ne]; omega
  have m1 : (0 : Int) ≤ (p : Int) % (L : Int) := Int.emod_nonneg _ (by omega)
  have m2 : (p : Int) % (L : Int) < (L : Int) := Int.emod_lt_of_pos _ (by omega)
  have m3 : (0 : Int) ≤ ((p : Int) * 7 + 3) % (L : Int) := Int.emod_nonneg _ (by omega)
  have m4 : ((p : Int) * 7 + 3) % (L : Int) < (L : Int) := Int.emod_lt_of_pos _ (by omega)
  have d1 : (0 : Int) ≤ (p : Int) / (L : Int) := Int.ediv_nonneg (by omega) (by omega)
  have d2 : (p : Int) / (L : Int) ≤ (p : Int) := Int.ediv_le_self _ (by omega)
  have hc1' : w.cell? ⟨b, off + ((p : Int) % (L : Int)).toNat, none⟩ = some (.int .u8 z1) := by
    have : ((p : Int) % (L : Int)).toNat = p % L := by omega
    rw [this]; exact hc1
  have hc2' : w.cell? ⟨b, off + (((p : Int) * 7 + 3) % (L : Int)).toNat, none⟩ = some (.int .u8 z2) := by
    have : (((p : Int) * 7 + 3) % (L : Int)).toNat = (p * 7 + 3) % L := by
      have e : ((p : Int) * 7 + 3) % (L : Int) = (((p * 7 + 3) % L : Nat) : Int) := by simp
      rw [e]; rfl
    rw [this]; exact hc2

  go_enter Tryd.func46, Tryd.ntmps46
  go_wp2_with fail
  refine wp_region_quiet_lit (by kernel_rfl) (by kernel_rfl) ?_
  repeat (any_goals (first | go_big_quiet_step (fail) | quiet_step (fail)))
  all_goals (refine wpQuiet_nil ?_; intro _ hw'; obtain ⟨nq, hw''⟩ := hw'; subst hw'')
  have hx := xor_nonneg (z1 * 131 + z2 * 1117 + p * 29 + (p : Int) / L * 53) ((z1 * 131 + z2 * 1117 + p * 29 + (p : Int) / L * 53) / 64) (by omega) (by omega) (by omega) (by omega)
  all_goals go_wp2
  go_ret
  exact ⟨⟨_, rfl, emod_in hn1⟩, nq, rfl⟩

/-- Only block q has turned. -/
structure OnlyAt (q : Nat) (w w' : World) : Prop where
  os : w'.os = w.os
  tape : w'.tape = w.tape
  output : w'.output = w.output
  size : w'.heap.size = w.heap.size
  block : ∀ k, k ≠ q → w'.heap[k]? = w.heap[k]?
theorem OnlyAt.cell {q : Nat} {w w' : World} (h : OnlyAt q w w') {p : Addr} (hp : p.block ≠ q) : w'.cell? p = w.cell? p := World.cell?_of_block (w := w) (h.block p.block hp)
theorem OnlyAt.below {q B : Nat} {w w' : World} (h : OnlyAt q w w') (hB : B ≤ q) : Below B w w' := ⟨h.os, h.tape, h.output, by rw [h.size]; exact Nat.le_refl _, fun k hk => h.block k (by omega)⟩
theorem onlyAt_step (w : World) (q j : Nat) (v : Value) (nq : Nat) : OnlyAt q w ((w.setCell ⟨q, j, none⟩ v).drewN nq) :=
  ⟨rfl, rfl, rfl, by simp, fun k hk => Below.heap_setCell w ⟨q, j, none⟩ v k hk⟩
theorem OnlyAt.owns {q : Nat} {w w' : World} (h : OnlyAt q w w') {base : Nat} {e : TypeId} {size : Nat} {v : Value} {n : Nat} {xs : List Value} (ho : w.ownsRow base e size v n xs) (hq : q < base) : w'.ownsRow base e size v n xs := by
  obtain ⟨h1, h2⟩ := ho
  refine ⟨h1, ?_⟩
  rcases h2 with h2 | ⟨g, cap, cur, hv, hg, hh, hr⟩
  · exact .inl h2
  · exact .inr ⟨g, cap, cur, hv, hg, by rw [h.block g (by omega)]; exact hh, hr⟩
/-- A reader: how many bytes have been taken. -/
def RdAt (w : World) (q p : Nat) : Prop :=
  ∃ (a : Option Addr) (L cap : Nat), w.cell? ⟨q, 0, none⟩ = some (.slice a L cap) ∧ w.cell? ⟨q, 1, none⟩ = some (.int .i64 p) ∧ w.frozen? ⟨q, 1, none⟩ = false ∧ L ≤ 2000 ∧
    (L = 0 ∨ ∃ b off, a = some ⟨b, off, none⟩ ∧ b < q ∧ ∀ i, i < L → ∃ z : Int, (0 ≤ z ∧ z ≤ 255) ∧ w.cell? ⟨b, off + i, none⟩ = some (.int .u8 z))
theorem cell_block {w : World} {a : Addr} {v : Value} (h : w.cell? a = some v) : a.block < w.heap.size := by
  rcases Nat.lt_or_ge a.block w.heap.size with h' | h'
  · exact h'
  · simp [World.cell?, Array.getElem?_eq_none h'] at h
theorem RdAt.lt {w : World} {q p : Nat} (h : RdAt w q p) : q < w.heap.size := by
  obtain ⟨a, L, cap, c0, _⟩ := h
  exact cell_block c0
theorem RdAt.later {w w' : World} {q p B : Nat} (h : RdAt w q p) (hb : Below B w w') (hq : q < B) : RdAt w' q p := by
  obtain ⟨a, L, cap, c0, c1, fz, hl, hr⟩ := h
  refine ⟨a, L, cap, by rw [hb.cell (by exact hq)]; exact c0, by rw [hb.cell (by exact hq)]; exact c1, by rw [hb.frozen (by exact hq)]; exact fz, hl, ?_⟩
  rcases hr with h0 | ⟨b, off, ha, hbq, hc⟩
  · exact .inl h0
  · refine .inr ⟨b, off, ha, hbq, fun i hi => ?_⟩
    obtain ⟨z, hz, hcz⟩ := hc i hi
    exact ⟨z, hz, by rw [hb.cell (by exact Nat.lt_trans hbq hq)]; exact hcz⟩
theorem RdAt.step {w : World} {q p : Nat} (h : RdAt w q p) (nq : Nat) : RdAt ((w.setCell ⟨q, 1, none⟩ (.int .i64 ((p : Int) + 1))).drewN nq) q (p + 1) := by
  obtain ⟨a, L, cap, c0, c1, fz, hl, hr⟩ := h
  refine ⟨a, L, cap, ?_, ?_, ?_, hl, ?_⟩
  · show (w.setCell _ _).cell? _ = _
    rw [← c0]; exact World.cell?_setCell_other _ _ _ _ (by simp)
  · show (w.setCell _ _).cell? _ = _
    rw [World.cell?_setCell_same _ _ _ c1]; simp
  · show (w.setCell _ _).frozen? _ = _
    rw [← fz]; simp
  · rcases hr with h0 | ⟨b, off, ha, hbq, hc⟩
    · exact .inl h0
    · refine .inr ⟨b, off, ha, hbq, fun i hi => ?_⟩
      obtain ⟨z, hz, hcz⟩ := hc i hi
      refine ⟨z, hz, ?_⟩
      show (w.setCell _ _).cell? _ = _
      rw [← hcz]; exact World.cell?_setCell_other _ _ _ _ (by intro h; injection h with h1 _; omega)
theorem pick (w : World) (q p : Nat) (n : Int) (hn1 : 1 ≤ n) (hn2 : n ≤ 1000000) (hp : p ≤ 1000000) (hr : RdAt w q p) :
    Calls Tryd.prog 46 #[.pointer (some ⟨q, 0, none⟩), .int .i64 n] w fun e w' => (∃ r : Int, e = .returned (.int .i64 r) ∧ 0 ≤ r ∧ r < n) ∧ RdAt w' q (p + 1) ∧ OnlyAt q w w' := by
  have h : Calls Tryd.prog 46 #[.pointer (some ⟨q, 0, none⟩), .int .i64 n] w fun e w' => (∃ r : Int, e = .returned (.int .i64 r) ∧ 0 ≤ r ∧ r < n) ∧ ∃ nq, w' = (w.setCell ⟨q, 1, none⟩ (.int .i64 (p + 1))).drewN nq := by
    obtain ⟨a, L, cap, c0, c1, fz, hl, hrow⟩ := hr
    rcases hrow with h0 | ⟨b, off, rfl, hbq, hc⟩
    · subst h0
      exact pick_nil w q cap p a n hn1 hn2 hp c0 c1 fz
    · rcases Nat.lt_or_ge p L with hlt | hge
      · obtain ⟨z, hz, hcz⟩ := hc p hlt
        exact pick_in w q b off L cap p n hn1 hn2 hp c0 c1 fz hl hlt z hz hcz (by omega)
      · rcases Nat.eq_zero_or_pos L with h0 | h0
        · subst h0
          exact pick_nil w q cap p _ n hn1 hn2 hp c0 c1 fz
        · obtain ⟨z1, hz1, hc1⟩ := hc (p % L) (Nat.mod_lt _ h0)
          obtain ⟨z2, hz2, hc2⟩ := hc ((p * 7 + 3) % L) (Nat.mod_lt _ h0)
          exact pick_out w q b off L cap p n hn1 hn2 hp c0 c1 fz hl h0 hge z1 z2 hz1 hz2 hc1 hc2 (by omega)
  refine h.mono ?_
  rintro e w' ⟨h1, nq, rfl⟩
  exact ⟨h1, hr.step nq, onlyAt_step _ _ _ _ _⟩

/-- Bytes that came in. -/
def BytesAt (w : World) (a : Option Addr) (L : Nat) : Prop :=
  L = 0 ∨ ∃ b off, a = some ⟨b, off, none⟩ ∧ ∀ i, i < L → ∃ z : Int, (0 ≤ z ∧ z ≤ 255) ∧ w.cell? ⟨b, off + i, none⟩ = some (.int .u8 z)
theorem rd_open {w : World} {a : Option Addr} {L cap : Nat} (h : BytesAt w a L) (hL : L ≤ 2000) : RdAt (w.alloc (.cells #[.slice a L cap, .int .i64 0] 119)) w.heap.size 0 := by
  refine ⟨a, L, cap, by simp, by simp, by simp, hL, ?_⟩
  rcases h with h | ⟨b, off, ha, hc⟩
  · exact .inl h
  · rcases Nat.eq_zero_or_pos L with h0 | h0
    · exact .inl h0
    · have hb : b < w.heap.size := by
        obtain ⟨z, _, hz⟩ := hc 0 h0
        exact cell_block hz
      refine .inr ⟨b, off, ha, hb, fun i hi => ?_⟩
      obtain ⟨z, hz, hcz⟩ := hc i hi
      exact ⟨z, hz, by rw [((Below.refl w.heap.size w).alloc (Nat.le_refl _) _).cell (by exact hb)]; exact hcz⟩

set_option maxHeartbeats 400000 in
theorem c44 (a : Option Addr) (L cap : Nat) (w : World) (hL : L ≤ 1048576) (hcap : L ≤ cap) (h : BytesAt w a L) :
    Calls Tryd.prog 44 #[.slice a L cap] w fun e w' => e = .returned (.pointer (some ⟨w.heap.size, 0, none⟩)) ∧ RdAt w' w.heap.size 0 ∧ Below w.heap.size w w' ∧ w'.heap.size = w.heap.size + 1 := by
  by_cases h2 : 2000 < L
  · have HR : Hid (RdAt (w.alloc (.cells #[.slice a 2000 cap, .int .i64 0] 119)) w.heap.size 0) := by
      refine rd_open ?_ (Nat.le_refl _)
      rcases h with h | ⟨b, off, ha, hc⟩
      · omega
      · exact .inr ⟨b, off, ha, fun i hi => hc i (by omega)⟩
    rcases h with h | ⟨b, off, rfl, hc⟩
    · omega
    clear hc
    go_enter Tryd.func44, Tryd.ntmps44
    go_wp2
    go_ret
    exact ⟨rfl, HR.out, (Below.refl _ _).alloc (Nat.le_refl _) _, by simp⟩
  · have HR : Hid (RdAt (w.alloc (.cells #[.slice a L cap, .int .i64 0] 119)) w.heap.size 0) := rd_open h (by omega)
    clear h
    go_enter Tryd.func44, Tryd.ntmps44
    go_wp2
    go_ret
    exact ⟨rfl, HR.out, (Below.refl _ _).alloc (Nat.le_refl _) _, by simp⟩

end Go.Proofs.YtignmnbgedmfbaaDoor
