import Derived.Test.YtafneponofcdeaaD7
namespace Go.Proofs.Ytafneponofcdeaa
open Go.RowKit

theorem rb_one {P : Prop} {a b : Bool} (h : a = true ↔ P) (k : b = true ↔ P) : a = b := by
  cases a <;> cases b
  · rfl
  · exact absurd (h.2 (k.1 rfl)) (by decide)
  · exact absurd (k.2 (h.1 rfl)) (by decide)
  · rfl

set_option maxHeartbeats 2000000 in
theorem c4 (ta ra : Option Addr) (tc rc : Nat) (s : St) (w : World) (hs : s.le 9223372036854775807) (hat : StAt w ta ra s) (hm : MaxAt w) :
    Calls Try.prog 4 #[.agg #[.int .i64 s.wd, .slice ta s.ts.length tc, .slice ra s.rs.length rc]] w fun e w' => e = .returned (.bool true) ∧ Below w.heap.size w w' := by
  have HA : Hid (StAt w ta ra s) := hat
  have HM : Hid (MaxAt w) := hm
  have hB0 : Below w.heap.size w (w.alloc (.cells #[.int .i64 s.wd, .slice ta s.ts.length tc, .slice ra s.rs.length rc] 31)) := (Below.refl _ _).alloc (Nat.le_refl _) _
  have h8 := c8 ta ra tc rc s _ hs (hat.below hB0)
  clear hs hat hm
  go_enter Try.func4, Try.ntmps4
  go_wp2_with fail
  refine h8.mono ?_
  rintro e w1 ⟨⟨r, rfl, hr⟩, hb1⟩
  have HR : Hid (0 ≤ r → s.le 1048576) := hr
  have hx1 : Below (w.heap.size + 1) (w.alloc (.cells #[.int .i64 s.wd, .slice ta s.ts.length tc, .slice ra s.rs.length rc] 31)) w1 := by have h := hb1; simp at h; exact h
  have hB1 : Below w.heap.size w w1 := hB0.trans (hx1.mono (by omega))
  have hz1 : w.heap.size + 1 ≤ w1.heap.size := by have := hx1.size; simpa using this
  have g0 : w1.cell? ⟨w.heap.size, 0, none⟩ = some (.int .i64 s.wd) := (hx1.cell (p := ⟨w.heap.size, 0, none⟩) (by simp)).trans (by simp [go_sem])
  have g1 : w1.cell? ⟨w.heap.size, 1, none⟩ = some (.slice ta s.ts.length tc) := (hx1.cell (p := ⟨w.heap.size, 1, none⟩) (by simp)).trans (by simp [go_sem])
  have g2 : w1.cell? ⟨w.heap.size, 2, none⟩ = some (.slice ra s.rs.length rc) := (hx1.cell (p := ⟨w.heap.size, 2, none⟩) (by simp)).trans (by simp [go_sem])
  clear h8 hr hb1
  by_cases h0 : 0 ≤ r
  · have HS : Hid (s.le 1048576) := HR.out h0
    clear HR
    have h10 := c10 ta ra tc rc s w1 HS.out (HA.out.below hB1)
    go_wp2_with fail
    refine h10.mono ?_
    rintro e wa ⟨⟨t1, r1, c1, d1, rfl, ha1⟩, hba⟩
    have hBa : Below w.heap.size w wa := hB1.trans (hba.mono hB1.size)
    have h9 := c9 t1 r1 c1 d1 s wa HS.out ha1
    clear h10
    go_wp2_with fail
    refine h9.mono ?_
    rintro e wb ⟨⟨b1, rfl, hb1⟩, hbb⟩
    have HB1 : Hid (b1 = true ↔ StOk s) := hb1
    have hBb : Below w.heap.size w wb := hBa.trans (hbb.mono hBa.size)
    have hab : Below w1.heap.size w1 wb := hba.trans (hbb.mono hba.size)
    have hzb : w1.heap.size ≤ wb.heap.size := hab.size
    have k0 := (hab.cell (p := ⟨w.heap.size, 0, none⟩) (by show w.heap.size < w1.heap.size; omega)).trans g0
    have k1 := (hab.cell (p := ⟨w.heap.size, 1, none⟩) (by show w.heap.size < w1.heap.size; omega)).trans g1
    have k2 := (hab.cell (p := ⟨w.heap.size, 2, none⟩) (by show w.heap.size < w1.heap.size; omega)).trans g2
    have h10 := c10 ta ra tc rc s wb HS.out (HA.out.below hBb)
    clear h9 hb1 g0 g1 g2 hab ha1 hba hbb
    go_wp2_with fail
    refine h10.mono ?_
    rintro e wc ⟨⟨t2, r2, c2, d2, rfl, ha2⟩, hbc⟩
    have hzc : wb.heap.size ≤ wc.heap.size := hbc.size
    have hBc : Below w.heap.size w wc := hBb.trans (hbc.mono hBb.size)
    have hAc : Below wc.heap.size wc (wc.alloc (.cells #[.int .i64 s.wd, .slice t2 s.ts.length c2, .slice r2 s.rs.length d2] 36)) := (Below.refl _ _).alloc (Nat.le_refl _) _
    have hBx : Below w.heap.size w (wc.alloc (.cells #[.int .i64 s.wd, .slice t2 s.ts.length c2, .slice r2 s.rs.length d2] 36)) := hBc.alloc hBc.size _
    have HA2 : Hid (StAt wc t2 r2 s) := ha2
    have m0 := (hbc.cell (p := ⟨w.heap.size, 0, none⟩) (by show w.heap.size < wb.heap.size; omega)).trans k0
    have m1 := (hbc.cell (p := ⟨w.heap.size, 1, none⟩) (by show w.heap.size < wb.heap.size; omega)).trans k1
    have m2 := (hbc.cell (p := ⟨w.heap.size, 2, none⟩) (by show w.heap.size < wb.heap.size; omega)).trans k2
    have h11 := c11 t2 r2 c2 d2 s _ HS.out (ha2.below hAc) (max_below HM.out hBx)
    clear h10 ha2 hbc k0 k1 k2
    go_wp2_with fail
    refine h11.mono ?_
    rintro e wd ⟨⟨b2, rfl, hb2⟩, hbd⟩
    obtain rfl := rb_one HB1.out hb2
    have hxd : Below (wc.heap.size + 1) (wc.alloc (.cells #[.int .i64 s.wd, .slice t2 s.ts.length c2, .slice r2 s.rs.length d2] 36)) wd := by have h := hbd; simp at h; exact h
    have hcd : Below wc.heap.size wc wd := hAc.trans (hxd.mono (by omega))
    have hzd : wc.heap.size + 1 ≤ wd.heap.size := by have := hxd.size; simpa using this
    have hBd : Below w.heap.size w wd := hBc.trans (hcd.mono hBc.size)
    have x0 : wd.cell? ⟨wc.heap.size, 0, none⟩ = some (.int .i64 s.wd) := (hxd.cell (p := ⟨wc.heap.size, 0, none⟩) (by simp)).trans (by simp [go_sem])
    have x1 : wd.cell? ⟨wc.heap.size, 1, none⟩ = some (.slice t2 s.ts.length c2) := (hxd.cell (p := ⟨wc.heap.size, 1, none⟩) (by simp)).trans (by simp [go_sem])
    have x2 : wd.cell? ⟨wc.heap.size, 2, none⟩ = some (.slice r2 s.rs.length d2) := (hxd.cell (p := ⟨wc.heap.size, 2, none⟩) (by simp)).trans (by simp [go_sem])
    have n0 := (hcd.cell (p := ⟨w.heap.size, 0, none⟩) (by show w.heap.size < wc.heap.size; omega)).trans m0
    have n1 := (hcd.cell (p := ⟨w.heap.size, 1, none⟩) (by show w.heap.size < wc.heap.size; omega)).trans m1
    have n2 := (hcd.cell (p := ⟨w.heap.size, 2, none⟩) (by show w.heap.size < wc.heap.size; omega)).trans m2
    have HX : Hid (StAt wd t2 r2 s) := HA2.out.below hcd
    have hwz1 : w.heap.size < wd.heap.size := by omega
    have hwz2 : wc.heap.size < wd.heap.size := by omega
    have h10 := fun u (hu : Below w.heap.size w u) => c10 ta ra tc rc s u HS.out (HA.out.below hu)
    clear h11 hb2 hbd hxd m0 m1 m2 HA2
    go_wp2_with fail
    go_region_held3 (fun u => (u.cell? ⟨w.heap.size, 0, none⟩ = some (.int .i64 s.wd) ∧ u.cell? ⟨w.heap.size, 1, none⟩ = some (.slice ta s.ts.length tc) ∧ u.cell? ⟨w.heap.size, 2, none⟩ = some (.slice ra s.rs.length rc)) ∧ u.cell? ⟨wc.heap.size, 0, none⟩ = some (.int .i64 s.wd) ∧ u.cell? ⟨wc.heap.size, 1, none⟩ = some (.slice t2 s.ts.length c2) ∧ u.cell? ⟨wc.heap.size, 2, none⟩ = some (.slice r2 s.rs.length d2)) (go_keep) (first | (go_at_call 10; refine (h10 _ hBd.drew).mono ?_; rintro e we ⟨⟨t3, r3, c3, d3, rfl, ha3⟩, hbe⟩; have HBE : Hid (Below wd.heap.size wd we) := (Below.refl _ _).drew.trans hbe; have HA3 : Hid (StAt we t3 r3 s) := ha3; have f0 := (HBE.out.cell (p := ⟨w.heap.size, 0, none⟩) (by exact hwz1)).trans n0; have f1 := (HBE.out.cell (p := ⟨w.heap.size, 1, none⟩) (by exact hwz1)).trans n1; have f2 := (HBE.out.cell (p := ⟨w.heap.size, 2, none⟩) (by exact hwz1)).trans n2; have f3 := (HBE.out.cell (p := ⟨wc.heap.size, 0, none⟩) (by exact hwz2)).trans x0; have f4 := (HBE.out.cell (p := ⟨wc.heap.size, 1, none⟩) (by exact hwz2)).trans x1; have f5 := (HBE.out.cell (p := ⟨wc.heap.size, 2, none⟩) (by exact hwz2)).trans x2; clear ha3 hbe) | (go_at_call 12; refine (c12 t2 r2 t3 r3 c2 d2 c3 d3 s _ HS.out (HX.out.below HBE.out) HA3.out).mono ?_; rintro e wf ⟨rfl, hbf⟩; have HBF : Hid (Below wd.heap.size wd wf) := HBE.out.trans (hbf.mono HBE.out.size); have j0 := (HBF.out.cell (p := ⟨w.heap.size, 0, none⟩) (by exact hwz1)).trans n0; have j1 := (HBF.out.cell (p := ⟨w.heap.size, 1, none⟩) (by exact hwz1)).trans n1; have j2 := (HBF.out.cell (p := ⟨w.heap.size, 2, none⟩) (by exact hwz1)).trans n2; have j3 := (HBF.out.cell (p := ⟨wc.heap.size, 0, none⟩) (by exact hwz2)).trans x0; have j4 := (HBF.out.cell (p := ⟨wc.heap.size, 1, none⟩) (by exact hwz2)).trans x1; have j5 := (HBF.out.cell (p := ⟨wc.heap.size, 2, none⟩) (by exact hwz2)).trans x2))
    have hBf : Below w.heap.size w wf := hBd.trans (HBF.out.mono hBd.size)
    go_wp2
    go_ret
    exact ⟨rfl, hBf⟩
  · clear HR
    go_wp2
    go_ret
    exact ⟨rfl, hB1⟩
end Go.Proofs.Ytafneponofcdeaa
