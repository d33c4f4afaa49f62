import Derived.Test.YtignmnbgedmfbaaDoorN7
import Derived.Test.YtignmnbgedmfbaaDoorN1
namespace Go.Proofs.YtignmnbgedmfbaaDoor
open Go.RowKit

theorem Kp.mono {base base' b : Nat} {w w' : World} (h : Kp base' b w w') (hle : base ≤ base') : Kp base b w w' := ⟨h.os, h.tape, h.output, h.size, fun k hk hne => h.block k (by omega) hne⟩
theorem Kp.free {base b : Nat} {w w' : World} (h : Kp base b w w') {p : Addr} (hp : p.block < base) (hne : p.block ≠ b) : w'.frozen? p = w.frozen? p := by
  unfold World.frozen?
  rw [h.block p.block hp hne]
def z42 : Obj := .cells #[.int .i64 0, .string ⟨#[]⟩] 42
/-- The block of a result that is to be given. -/
theorem res_kept {w w2 : World} {b : Nat} (hb : b < w.heap.size) (hk : Kp (w.heap.size + 1) b (w.alloc z42) w2) :
    (w2.cell? ⟨w.heap.size, 0, none⟩ = some (.int .i64 0) ∧ w2.cell? ⟨w.heap.size, 1, none⟩ = some (.string ⟨#[]⟩)) ∧ w2.frozen? ⟨w.heap.size, 0, none⟩ = false ∧ w2.frozen? ⟨w.heap.size, 1, none⟩ = false := by
  have e : ∀ j, w2.cell? ⟨w.heap.size, j, none⟩ = (w.alloc z42).cell? ⟨w.heap.size, j, none⟩ := fun j => hk.cell (by simp) (by simp; omega)
  have f : ∀ j, w2.frozen? ⟨w.heap.size, j, none⟩ = (w.alloc z42).frozen? ⟨w.heap.size, j, none⟩ := fun j => hk.free (by simp) (by simp; omega)
  rw [e, e, f, f]
  unfold z42
  simp

set_option maxHeartbeats 1000000 in
theorem c110a (b : Nat) (r : RC) (hs : Bool) (w : World) (h : RunAt w b r) (hh : r.hand.size ≤ 300) (hn : nameOk r.hand.data.toList = false) :
    Calls Tryd.prog 110 #[.pointer (some ⟨b, 0, none⟩), .bool hs] w fun e w' => e = .returned (.tuple #[.agg #[.int .i64 0, .string ⟨#[]⟩], .bool false]) ∧ RunAt w' b (r.fin 4 ⟨#[63]⟩) ∧ Kp w.heap.size b w w' := by
  have HR : Hid (RunAt (w.alloc z42) b r) := run_alloc h _
  have c2 : w.cell? ⟨b, 2, none⟩ = some (.string r.hand) := run_cell h 2
  have hlt := run_lt h
  have hle : w.heap.size ≤ w.heap.size := Nat.le_refl _
  have HN : Hid (nameOk r.hand.data.toList = false) := hn
  have HA : Hid (Kp w.heap.size b w (w.alloc z42)) := (Kp.refl _ b w).alloc hle _
  clear h hn
  go_enter Tryd.func110, Tryd.ntmps110
  go_wp2_with fail
  refine (c78 r.hand _ (by omega)).mono ?_
  rintro e w1 ⟨rfl, rfl⟩
  rw [HN.out]
  go_wp2_with fail
  refine (c81 (w.heap.size + 1) b r 4 ⟨#[63]⟩ _ HR.out).mono ?_
  rintro e w2 ⟨rfl, h2, hk0⟩
  have hk : Kp (w.heap.size + 1) b (w.alloc z42) w2 := hk0
  obtain ⟨⟨q0, q1⟩, g0, g1⟩ := res_kept hlt hk
  have H2 : Hid (RunAt w2 b (r.fin 4 ⟨#[63]⟩)) := h2
  have HK : Hid (Kp w.heap.size b w w2) := HA.out.trans (hk.mono (by omega))
  have e00 := World.cell?_setCell_same w2 ⟨w.heap.size, 0, none⟩ (.int .i64 0) q0
  obtain ⟨e0, e1⟩ := set2_at w2 w.heap.size 0 (.int .i64 0) (.string ⟨#[]⟩) _ _ q0 q1
  clear e0
  clear h2 hk hk0
  go_wp2
  have hne : b ≠ w.heap.size := by omega
  refine bodyPost_ret (v := .tuple #[.agg #[.int .i64 0, .string ⟨#[]⟩], .bool false]) (by simp [results, Tryd.results110, go_sem, e00, e1]) rfl ⟨rfl, ?_, ?_⟩
  · unfold RunAt
    rw [heap_setCell_other _ _ _ _ (by exact hne), heap_setCell_other _ _ _ _ (by exact hne)]
    exact H2.out
  · exact HK.out.trans (Kp.of_base (((Below.refl w.heap.size _).setCell (by exact hle) _).setCell (by exact hle) _))

set_option maxHeartbeats 1000000 in
theorem c110b (b : Nat) (r : RC) (hs : Bool) (w : World) (h : RunAt w b r) (hh : r.hand.size ≤ 300) (hn : nameOk r.hand.data.toList = true) (hl : r.looks = 14) :
    Calls Tryd.prog 110 #[.pointer (some ⟨b, 0, none⟩), .bool hs] w fun e w' => e = .returned (.tuple #[.agg #[.int .i64 0, .string ⟨#[]⟩], .bool false]) ∧ RunAt w' b (r.fin 3 ⟨#[]⟩) ∧ Kp w.heap.size b w w' := by
  have HR : Hid (RunAt (w.alloc z42) b r) := run_alloc h _
  have c2 : w.cell? ⟨b, 2, none⟩ = some (.string r.hand) := run_cell h 2
  have c5 : w.cell? ⟨b, 5, none⟩ = some (.int .i64 14) := by rw [← hl]; exact run_cell h 5
  have hlt := run_lt h
  have hle : w.heap.size ≤ w.heap.size := Nat.le_refl _
  have HN : Hid (nameOk r.hand.data.toList = true) := hn
  have HA : Hid (Kp w.heap.size b w (w.alloc z42)) := (Kp.refl _ b w).alloc hle _
  clear h hn
  go_enter Tryd.func110, Tryd.ntmps110
  go_wp2_with fail
  refine (c78 r.hand _ (by omega)).mono ?_
  rintro e w1 ⟨rfl, rfl⟩
  rw [HN.out]
  go_wp2_with fail
  refine (c81 (w.heap.size + 1) b r 3 ⟨#[]⟩ _ HR.out).mono ?_
  rintro e w2 ⟨rfl, h2, hk0⟩
  have hk : Kp (w.heap.size + 1) b (w.alloc z42) w2 := hk0
  obtain ⟨⟨q0, q1⟩, g0, g1⟩ := res_kept hlt hk
  have H2 : Hid (RunAt w2 b (r.fin 3 ⟨#[]⟩)) := h2
  have HK : Hid (Kp w.heap.size b w w2) := HA.out.trans (hk.mono (by omega))
  have e00 := World.cell?_setCell_same w2 ⟨w.heap.size, 0, none⟩ (.int .i64 0) q0
  obtain ⟨e0, e1⟩ := set2_at w2 w.heap.size 0 (.int .i64 0) (.string ⟨#[]⟩) _ _ q0 q1
  clear e0
  clear h2 hk hk0
  go_wp2
  have hne : b ≠ w.heap.size := by omega
  refine bodyPost_ret (v := .tuple #[.agg #[.int .i64 0, .string ⟨#[]⟩], .bool false]) (by simp [results, Tryd.results110, go_sem, e00, e1]) rfl ⟨rfl, ?_, ?_⟩
  · unfold RunAt
    rw [heap_setCell_other _ _ _ _ (by exact hne), heap_setCell_other _ _ _ _ (by exact hne)]
    exact H2.out
  · exact HK.out.trans (Kp.of_base (((Below.refl w.heap.size _).setCell (by exact hle) _).setCell (by exact hle) _))

set_option maxHeartbeats 1000000 in
theorem c110c (b : Nat) (r : RC) (hs : Bool) (w : World) (h : RunAt w b r) (hh : r.hand.size ≤ 300) (hn : nameOk r.hand.data.toList = true) (a : Option Addr) (n cap : Nat) (hl : r.looks = n) (hl2 : n < 14) (hrs : r.reps = .slice a n cap) :
    Calls Tryd.prog 110 #[.pointer (some ⟨b, 0, none⟩), .bool hs] w fun e w' => e = .returned (.tuple #[.agg #[.int .i64 0, .string ⟨#[]⟩], .bool false]) ∧ RunAt w' b (r.stop hs) ∧ Kp w.heap.size b w w' := by
  have HR : Hid (RunAt (w.alloc z42) b r) := run_alloc h _
  have c2 : w.cell? ⟨b, 2, none⟩ = some (.string r.hand) := run_cell h 2
  have c5 : w.cell? ⟨b, 5, none⟩ = some (.int .i64 n) := by rw [← hl]; exact run_cell h 5
  have c4 : w.cell? ⟨b, 4, none⟩ = some (.slice a n cap) := by rw [run_cell h 4, ← hrs]; rfl
  have hlt := run_lt h
  have hle : w.heap.size ≤ w.heap.size := Nat.le_refl _
  have HN : Hid (nameOk r.hand.data.toList = true) := hn
  have HA : Hid (Kp w.heap.size b w (w.alloc z42)) := (Kp.refl _ b w).alloc hle _
  clear h hn
  go_enter Tryd.func110, Tryd.ntmps110
  go_wp2_with fail
  refine (c78 r.hand _ (by omega)).mono ?_
  rintro e w1 ⟨rfl, rfl⟩
  rw [HN.out]
  go_wp2_with fail
  go_region
  go_wp2_with fail
  refine (c121 (w.heap.size + 1) b r hs (w.alloc z42).drew HR.out).mono ?_
  rintro e w2 ⟨rfl, h2, hk0⟩
  have hk : Kp (w.heap.size + 1) b (w.alloc z42) w2 := (Kp.refl _ b (w.alloc z42)).drew.trans hk0
  obtain ⟨⟨q0, q1⟩, g0, g1⟩ := res_kept hlt hk
  have H2 : Hid (RunAt w2 b (r.stop hs)) := h2
  have HK : Hid (Kp w.heap.size b w w2) := HA.out.trans (hk.mono (by omega))
  have e00 := World.cell?_setCell_same w2 ⟨w.heap.size, 0, none⟩ (.int .i64 0) q0
  obtain ⟨e0, e1⟩ := set2_at w2 w.heap.size 0 (.int .i64 0) (.string ⟨#[]⟩) _ _ q0 q1
  clear e0
  clear h2 hk hk0
  go_wp2
  have hne : b ≠ w.heap.size := by omega
  refine bodyPost_ret (v := .tuple #[.agg #[.int .i64 0, .string ⟨#[]⟩], .bool false]) (by simp [results, Tryd.results110, go_sem, e00, e1]) rfl ⟨rfl, ?_, ?_⟩
  · unfold RunAt
    rw [heap_setCell_other _ _ _ _ (by exact hne), heap_setCell_other _ _ _ _ (by exact hne)]
    exact H2.out
  · exact HK.out.trans (Kp.of_base (((Below.refl w.heap.size _).setCell (by exact hle) _).setCell (by exact hle) _))
theorem St.kp {base b : Nat} {w w' : World} {r r' : RC} {out : List UInt8} (h : St base b w r out) (hk : Kp w.heap.size b w w') (hr : RunAt w' b r') (hp : r'.p = r.p) (hv : r'.v = r.v) : St base b w' r' out := by
  refine ⟨h.lt, Nat.le_trans h.le hk.size, hr, by rw [hp]; exact h.ptr, ?_⟩
  rw [hv]
  obtain ⟨h1, h2⟩ := h.own
  refine ⟨h1, ?_⟩
  rcases h2 with h2 | ⟨g, cap, cur, hv, hg, hh, hr⟩
  · exact .inl h2
  · refine .inr ⟨g, cap, cur, hv, hg, ?_, hr⟩
    have := h.lt
    rw [hk.block g (blk_lt hh) (by omega)]; exact hh

set_option maxHeartbeats 1000000 in
theorem c110d (b : Nat) (r : RC) (hs : Bool) (w : World) (h : RunAt w b r) (hh : r.hand.size ≤ 300) (hn : nameOk r.hand.data.toList = true) (ba off n cap k : Nat) (x : R2) (hl : r.looks = k) (hl2 : k < 14) (hkn : k < n) (hrs : r.reps = .slice (some ⟨ba, off, none⟩) n cap) (_hn14 : n ≤ 14) (hba : ba < w.heap.size)
    (x0 : w.cell? ⟨ba, off + k * 2, none⟩ = some (.int .i64 x.code)) (x1 : w.cell? ⟨ba, off + k * 2 + 1, none⟩ = some (.string x.tx)) :
    Calls Tryd.prog 110 #[.pointer (some ⟨b, 0, none⟩), .bool hs] w fun e w' => e = .returned (.tuple #[.agg #[.int .i64 x.code, .string x.tx], .bool true]) ∧ RunAt w' b (r.looked (k + 1)) ∧ Kp w.heap.size b w w' := by
  have HR : Hid (RunAt w b r) := h
  have c2 : w.cell? ⟨b, 2, none⟩ = some (.string r.hand) := run_cell h 2
  have c5 : w.cell? ⟨b, 5, none⟩ = some (.int .i64 k) := by rw [← hl]; exact run_cell h 5
  have c4 : w.cell? ⟨b, 4, none⟩ = some (.slice (some ⟨ba, off, none⟩) n cap) := by rw [run_cell h 4, ← hrs]; rfl
  have f5 := run_free h 5
  have hlt := run_lt h
  have hle : w.heap.size ≤ w.heap.size := Nat.le_refl _
  have HN : Hid (nameOk r.hand.data.toList = true) := hn
  clear h hn
  go_enter Tryd.func110, Tryd.ntmps110
  go_wp2_with fail
  refine (c78 r.hand _ (by omega)).mono ?_
  rintro e w1 ⟨rfl, rfl⟩
  rw [HN.out]
  go_wp2_with fail
  go_region
  go_wp2_with fail
  go_region
  go_wp2
  refine bodyPost_ret (v := .tuple #[.agg #[.int .i64 x.code, .string x.tx], .bool true]) (by simp [results, Tryd.results110, go_sem]) rfl ⟨rfl, ?_, ?_⟩
  · have h1 : RunAt (w.setCell ⟨b, 5, none⟩ (.int .i64 ((k : Int) + 1))) b (r.looked (k + 1)) := run_set HR.out 5 _ rfl
    exact run_below h1 ((((Below.refl _ _).alloc (Nat.le_refl _) _).alloc (by simp) _).drew.drew)
  · exact ((((Kp.refl w.heap.size b w).set 5 _).alloc (by simp) _).alloc (by simp) _).drew.drew
end Go.Proofs.YtignmnbgedmfbaaDoor
