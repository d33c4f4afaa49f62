import Derived.Test.YtpjpckmfehfniaaGreatDoorGA
import Derived.Test.YtpjpckmfehfniaaGreatDoorZC35
namespace Go.Proofs.YtpjpckmfehfniaaGreatDoor
open Go.RowKit
theorem goL_bad {tl ar : ByteArray} (ls : List M.L4) : ∀ (t : TN) (s : RS), (∃ i, i < ls.length ∧ ¬ M.LkOk (ls.getD i M.l4z)) → goL tl ar t s ls = zeroT := by
  induction ls with
  | nil => rintro t s ⟨i, h, _⟩; exact absurd h (Nat.not_lt_zero _)
  | cons x xs ih =>
    rintro t s ⟨i, hi, hb⟩
    by_cases hh : Halt t x
    · exact goL_halt hh
    · rw [goL_go hh]
      cases i with
      | zero => exact absurd (.inr (.inr (.inr hb))) hh
      | succ i => exact ih _ _ ⟨i, by simpa using hi, hb⟩
set_option maxHeartbeats 8000000 in
set_option maxRecDepth 100000 in
theorem c8n (m : M.M3) (a : Option Addr) (cap : Nat) (ls : List M.L4) (w : World) (hm : m.le 1048576) (hno : M.okM m = false ∨ ¬ M.LksOk ls) (hl : ls.length ≤ 1048576) (hs : ∀ i, (ls.getD i M.l4z).le 1048576) (hat : M.LksAt w a ls) :
    Calls Tryz.prog 8 #[.agg #[.string m.nm, .string m.tl, .string m.ar], .slice a ls.length cap] w fun e w' => e = .returned zeroT.v ∧ Below w.heap.size w w' := by
  have hml : m.le 1048700 := ⟨by have := hm.1; omega, by have := hm.2.1; omega, by have := hm.2.2; omega⟩
  have HAT : Hid (M.LksAt w a ls) := hat
  have HNO : Hid (M.okM m = false ∨ ¬ M.LksOk ls) := hno
  clear hat hno
  have HW : Hid (WS m w = (((w.alloc (.cells #[.string m.nm, .string m.tl, .string m.ar] 32)).alloc (.cells #[.bool false, .int .i64 0, .string ⟨#[]⟩, .bool false, .string ⟨#[]⟩, .int .i64 0] 30)).alloc (.cells #[.bool false, .int .i64 0, .string ⟨#[]⟩, .bool false, .string ⟨#[]⟩, .int .i64 0] 30))) := rfl
  rcases hk : M.okM m with _ | _
  · go_enter Tryz.func8, Tryz.ntmps8
    go_wp2_with fail
    rw [← HW.out]
    refine (M.c32v hk _ hml).mono ?_
    rintro e w1 ⟨rfl, hb1⟩
    have HBa : Hid (Below (w.heap.size + 3) (WS m w) w1) := hb1.mono (by rw [WS_size]; omega)
    clear hb1
    go_wp2_with (first | (refine wp_loadT rfl (.tmp 5) rfl (w.heap.size + 1 + 1) rfl zeroT (WS_n HBa.out) ?_) | (refine wp_turn rfl (.tmp 4) _ rfl (w.heap.size + 1) rfl zeroT zeroT rfl (WS_z HBa.out) rfl ?_; intro u' hT' hB' _))
    refine bodyPost_ret (v := zeroT.v) (M.results_blk (P := Tryz.prog) (ty := 30) rfl _ _ (w.heap.size + 1) _ _ rfl hT'.blk Tryz.underlying30 rfl (by kernel_rfl)) rfl ⟨rfl, ?_⟩
    exact ((WS_below m w).trans (HBa.out.mono (by omega))).trans (hB' _ (by omega))
  · go_enter Tryz.func8, Tryz.ntmps8
    go_wp2_with fail
    rw [← HW.out]
    refine (M.c32v hk _ hml).mono ?_
    rintro e w1 ⟨rfl, hb1⟩
    have HB1 : Hid (Below (w.heap.size + 3) (WS m w) w1) := hb1.mono (by rw [WS_size]; omega)
    have hz1 : w.heap.size + 3 ≤ w1.heap.size := by have := hb1.size; rw [WS_size] at this; exact this
    have hBw1 : Below w.heap.size w w1 := (WS_below m w).trans (HB1.out.mono (by omega))
    clear hb1
    go_wp2_with fail
    refine (M.c33 a cap ls w1 hl hs (M.lks_below HAT.out hBw1)).mono ?_
    rintro e w2 ⟨⟨r, rfl, hr⟩, hb2⟩
    have hrt : r = false := by
      rcases HNO.out with h | h
      · rw [hk] at h; cases h
      · cases r
        · rfl
        · exact absurd (hr.1 rfl) h
    subst hrt
    have HBa : Hid (Below (w.heap.size + 3) (WS m w) w2) := HB1.out.trans (hb2.mono (by omega))
    clear hb2 hBw1 HB1 hr
    go_wp2_with (first | (refine wp_loadT rfl (.tmp 5) rfl (w.heap.size + 1 + 1) rfl zeroT (WS_n HBa.out) ?_) | (refine wp_turn rfl (.tmp 4) _ rfl (w.heap.size + 1) rfl zeroT zeroT rfl (WS_z HBa.out) rfl ?_; intro u' hT' hB' _))
    refine bodyPost_ret (v := zeroT.v) (M.results_blk (P := Tryz.prog) (ty := 30) rfl _ _ (w.heap.size + 1) _ _ rfl hT'.blk Tryz.underlying30 rfl (by kernel_rfl)) rfl ⟨rfl, ?_⟩
    exact ((WS_below m w).trans (HBa.out.mono (by omega))).trans (hB' _ (by omega))
/-- spec.Go. -/
theorem c8 (m : M.M3) (a : Option Addr) (cap : Nat) (ls : List M.L4) (w : World) (hm : m.le 1048576) (hl : ls.length ≤ 1048576) (hs : ∀ i, (ls.getD i M.l4z).le 1048576) (hat : M.LksAt w a ls) :
    Calls Tryz.prog 8 #[.agg #[.string m.nm, .string m.tl, .string m.ar], .slice a ls.length cap] w fun e w' => e = .returned (goT m ls).v ∧ Below w.heap.size w w' := by
  by_cases hk : M.okM m = true
  · by_cases h15 : ls.length ≤ 15
    · rw [goT_yes hk h15]
      by_cases hok : M.LksOk ls
      · exact c8y m a cap ls w hm hk hok hs hat
      · have hb : ∃ i, i < ls.length ∧ ¬ M.LkOk (ls.getD i M.l4z) := by
          apply Classical.byContradiction
          intro h
          exact hok ⟨h15, fun i hi => Classical.byContradiction fun h' => h ⟨i, hi, h'⟩⟩
        rw [goL_bad ls _ _ hb]
        exact c8n m a cap ls w hm (.inr hok) hl hs hat
    · rw [goT_no (.inr (by omega))]
      exact c8n m a cap ls w hm (.inr fun h => h15 h.1) hl hs hat
  · have hk' : M.okM m = false := by simpa using hk
    rw [goT_no (.inl hk')]
    exact c8n m a cap ls w hm (.inl hk') hl hs hat
/-- impl.Go. -/
theorem c11 (m : M.M3) (a : Option Addr) (cap : Nat) (ls : List M.L4) (w : World) (hm : m.le 1048576) (hl : ls.length ≤ 1048576) (hs : ∀ i, (ls.getD i M.l4z).le 1048576) (hat : M.LksAt w a ls) (hsh : ShapesAt w) (hmx : MaxAt w) :
    Calls Tryz.prog 11 #[.agg #[.string m.nm, .string m.tl, .string m.ar], .slice a ls.length cap] w fun e w' => e = .returned (goT m ls).v ∧ Below w.heap.size w w' := by
  by_cases hk : M.okM m = true
  · by_cases h15 : ls.length ≤ 15
    · rw [goT_yes hk h15]
      exact c11y m a cap ls w hm hk h15 hs hat hsh hmx
    · rw [goT_no (.inr (by omega))]
      exact c11n m a cap ls w hm hl (.inr (by omega))
  · have hk' : M.okM m = false := by simpa using hk
    rw [goT_no (.inl hk')]
    exact c11n m a cap ls w hm hl (.inl hk')
end Go.Proofs.YtpjpckmfehfniaaGreatDoor
namespace Go.Proofs.YtpjpckmfehfniaaGreatDoor
open Go.RowKit
theorem c8t {o : Bool} {c : Int} {t : ByteArray} {h : Bool} {n : ByteArray} {k : Int} (m : M.M3) (a : Option Addr) (cap : Nat) (ls : List M.L4) (w : World) (hm : m.le 1048576) (hl : ls.length ≤ 1048576) (hs : ∀ i, (ls.getD i M.l4z).le 1048576) (hat : M.LksAt w a ls) (e : goT m ls = ⟨o, c, t, h, n, k⟩) :
    Calls Tryz.prog 8 #[.agg #[.string m.nm, .string m.tl, .string m.ar], .slice a ls.length cap] w fun e w' => e = .returned (.agg #[.bool o, .int .i64 c, .string t, .bool h, .string n, .int .i64 k]) ∧ Below w.heap.size w w' := by
  have := c8 m a cap ls w hm hl hs hat
  rw [e] at this
  exact this
theorem c11t {o : Bool} {c : Int} {t : ByteArray} {h : Bool} {n : ByteArray} {k : Int} (m : M.M3) (a : Option Addr) (cap : Nat) (ls : List M.L4) (w : World) (hm : m.le 1048576) (hl : ls.length ≤ 1048576) (hs : ∀ i, (ls.getD i M.l4z).le 1048576) (hat : M.LksAt w a ls) (hsh : ShapesAt w) (hmx : MaxAt w) (e : goT m ls = ⟨o, c, t, h, n, k⟩) :
    Calls Tryz.prog 11 #[.agg #[.string m.nm, .string m.tl, .string m.ar], .slice a ls.length cap] w fun e w' => e = .returned (.agg #[.bool o, .int .i64 c, .string t, .bool h, .string n, .int .i64 k]) ∧ Below w.heap.size w w' := by
  have := c11 m a cap ls w hm hl hs hat hsh hmx
  rw [e] at this
  exact this
set_option maxHeartbeats 4000000 in
set_option maxRecDepth 100000 in
theorem c3 (m : M.M3) (a : Option Addr) (cap : Nat) (ls : List M.L4) (w : World) (hm : m.le 9223372036854775807) (hl : ls.length ≤ 9223372036854775807) (hs : ∀ i, (ls.getD i M.l4z).le 9223372036854775807) (hat : M.LksAt w a ls) (hsh : ShapesAt w) (hmx : MaxAt w) :
    Calls Tryz.prog 3 #[.agg #[.string m.nm, .string m.tl, .string m.ar], .slice a ls.length cap] w fun e w' => e = .returned (.bool true) ∧ Below w.heap.size w w' := by
  have HAT : Hid (M.LksAt w a ls) := hat
  have HSH : Hid (ShapesAt w) := hsh
  have HMX : Hid (MaxAt w) := hmx
  clear hat hsh hmx
  obtain ⟨wA, hwA⟩ : ∃ wA, wA = w.alloc (.cells #[.string m.nm, .string m.tl, .string m.ar] 23) := ⟨_, rfl⟩
  have HWA : Hid (wA = w.alloc (.cells #[.string m.nm, .string m.tl, .string m.ar] 23)) := hwA
  have hB0 : Below w.heap.size w wA := by rw [hwA]; exact (Below.refl _ _).alloc (Nat.le_refl _) _
  have hzA : wA.heap.size = w.heap.size + 1 := by rw [hwA]; simp
  have HM : ∀ u, Below wA.heap.size wA u → u.cell? ⟨w.heap.size, 0, none⟩ = some (.string m.nm) ∧ u.cell? ⟨w.heap.size, 1, none⟩ = some (.string m.tl) ∧ u.cell? ⟨w.heap.size, 2, none⟩ = some (.string m.ar) := fun u hb => by
    have e : u.heap[w.heap.size]? = some (.cells #[.string m.nm, .string m.tl, .string m.ar] 23 (0, 0)) := by
      rw [hb.block _ (by omega), hwA]; exact alloc_new rfl _
    exact ⟨Lib.cell_of_heap e 0, Lib.cell_of_heap e 1, Lib.cell_of_heap e 2⟩
  have HMM : Hid (∀ u, Below wA.heap.size wA u → u.cell? ⟨w.heap.size, 0, none⟩ = some (.string m.nm) ∧ u.cell? ⟨w.heap.size, 1, none⟩ = some (.string m.tl) ∧ u.cell? ⟨w.heap.size, 2, none⟩ = some (.string m.ar)) := HM
  clear hwA HM
  go_enter Tryz.func3, Tryz.ntmps3
  go_wp2_with fail
  rw [← HWA.out]
  refine (M.c6 m 1048576 wA hm (by omega) (by omega)).mono ?_
  rintro e w1 ⟨⟨r, rfl, hr⟩, hb1⟩
  have hz1 := hb1.size
  have hB1 : Below w.heap.size w w1 := hB0.trans (hb1.mono (by omega))
  by_cases hr0 : r < 0
  · clear hr
    go_wp2
    go_ret
    exact ⟨rfl, hB1⟩
  obtain ⟨hm1, hrm⟩ := hr (by omega)
  clear hr hm
  go_wp2_with fail
  refine (M.c7 a cap ls r w1 (by omega) hrm hs hl (M.lks_below HAT.out hB1)).mono ?_
  rintro e w2 ⟨⟨q, rfl, hq⟩, hb2⟩
  have hz2 := hb2.size
  have hA2 : Below wA.heap.size wA w2 := hb1.trans (hb2.mono (by omega))
  have hB2 : Below w.heap.size w w2 := hB0.trans (hA2.mono (by omega))
  by_cases hq0 : q < 0
  · clear hq
    go_wp2
    go_ret
    exact ⟨rfl, hB2⟩
  obtain ⟨hl1, hs1, hqm⟩ := hq (by omega)
  have HS : Hid (∀ i, (ls.getD i M.l4z).le 1048576) := hs1
  obtain ⟨m0, m1, m2⟩ := HMM.out w2 hA2
  clear hq hs hs1 hl hb1 hb2
  go_wp2_with fail
  refine (M.c9 m w2).mono ?_
  rintro e w3 ⟨rfl, hb3⟩
  have hz3 := hb3.size
  have hA3 : Below wA.heap.size wA w3 := hA2.trans (hb3.mono (by omega))
  have hB3 : Below w.heap.size w w3 := hB0.trans (hA3.mono (by omega))
  clear m0 m1 m2 hb3
  go_wp2_with fail
  refine (M.c10 a cap ls w3 hl1 (M.lks_below HAT.out hB3)).mono ?_
  rintro e w4 ⟨⟨rfl, h4⟩, hb4⟩
  have hz4 := hb4.size
  have hA4 : Below wA.heap.size wA w4 := hA3.trans (hb4.mono (by omega))
  have hB4 : Below w.heap.size w w4 := hB0.trans (hA4.mono (by omega))
  clear hb4
  go_wp2_with fail
  rcases hT : goT m ls with ⟨o, c, t, hh, n, st⟩
  have HT : Hid (goT m ls = ⟨o, c, t, hh, n, st⟩) := hT
  clear hT
  refine (c8t m (some ⟨w3.heap.size, 0, none⟩) ls.length ls w4 hm1 hl1 HS.out h4 HT.out).mono ?_
  rintro e w5 ⟨rfl, hb5⟩
  have hz5 := hb5.size
  have hA5 : Below wA.heap.size wA w5 := hA4.trans (hb5.mono (by omega))
  have hB5 : Below w.heap.size w w5 := hB0.trans (hA5.mono (by omega))
  clear hb5 h4
  obtain ⟨wB, hwB⟩ : ∃ wB, wB = w5.alloc (.cells #[.bool o, .int .i64 c, .string t, .bool hh, .string n, .int .i64 st] 30) := ⟨_, rfl⟩
  have HWB : Hid (wB = w5.alloc (.cells #[.bool o, .int .i64 c, .string t, .bool hh, .string n, .int .i64 st] 30)) := hwB
  have hzB : wB.heap.size = w5.heap.size + 1 := by rw [hwB]; simp
  have hAB : Below wA.heap.size wA wB := by rw [hwB]; exact hA5.alloc (by omega) _
  have hBB : Below w.heap.size w wB := hB0.trans (hAB.mono (by omega))
  have HTB : Hid (T6At wB w5.heap.size ⟨o, c, t, hh, n, st⟩) := by
    show wB.heap[_]? = _
    rw [hwB]; exact alloc_new rfl _
  clear hwB
  go_wp2_with fail
  rw [← HWB.out]
  refine (M.c10 a cap ls wB hl1 (M.lks_below HAT.out hBB)).mono ?_
  rintro e w6 ⟨⟨rfl, h6⟩, hb6⟩
  have hz6 := hb6.size
  have hA6 : Below wA.heap.size wA w6 := hAB.trans (hb6.mono (by omega))
  have hB6 : Below w.heap.size w w6 := hB0.trans (hA6.mono (by omega))
  have HT6 : Hid (T6At w6 w5.heap.size ⟨o, c, t, hh, n, st⟩) := HTB.out.below hb6 (by omega)
  obtain ⟨m0, m1, m2⟩ := HMM.out w6 hA6
  clear hb6
  go_wp2_with fail
  refine (M.c9 m w6).mono ?_
  rintro e w7 ⟨rfl, hb7⟩
  have hz7 := hb7.size
  have hA7 : Below wA.heap.size wA w7 := hA6.trans (hb7.mono (by omega))
  have hB7 : Below w.heap.size w w7 := hB0.trans (hA7.mono (by omega))
  have HT7 : Hid (T6At w7 w5.heap.size ⟨o, c, t, hh, n, st⟩) := HT6.out.below hb7 (by omega)
  have h7 : M.LksAt w7 (some ⟨w5.heap.size + 1, 0, none⟩) ls := by rw [← hzB]; exact M.lks_below h6 hb7
  clear m0 m1 m2 hb7 h6
  go_wp2_with fail
  refine (c11t m (some ⟨w5.heap.size + 1, 0, none⟩) ls.length ls w7 hm1 hl1 HS.out h7 (shapes_below HSH.out hB7) (max_below HMX.out hB7) HT.out).mono ?_
  rintro e w8 ⟨rfl, hb8⟩
  have hz8 := hb8.size
  have hA8 : Below wA.heap.size wA w8 := hA7.trans (hb8.mono (by omega))
  have HT8 : Hid (T6At w8 w5.heap.size ⟨o, c, t, hh, n, st⟩) := HT7.out.below hb8 (by omega)
  have h8 := M.lks_below h7 hb8
  clear hb8 h7
  obtain ⟨wC, hwC⟩ : ∃ wC, wC = w8.alloc (.cells #[.bool o, .int .i64 c, .string t, .bool hh, .string n, .int .i64 st] 30) := ⟨_, rfl⟩
  have HWC : Hid (wC = w8.alloc (.cells #[.bool o, .int .i64 c, .string t, .bool hh, .string n, .int .i64 st] 30)) := hwC
  have hzC : wC.heap.size = w8.heap.size + 1 := by rw [hwC]; simp
  have hbC : Below w8.heap.size w8 wC := by rw [hwC]; exact (Below.refl _ _).alloc (Nat.le_refl _) _
  have hAC : Below wA.heap.size wA wC := hA8.trans (hbC.mono (by omega))
  have HTC : Hid (T6At wC w8.heap.size ⟨o, c, t, hh, n, st⟩) := by
    show wC.heap[_]? = _
    rw [hwC]; exact alloc_new rfl _
  have HTD : Hid (T6At wC w5.heap.size ⟨o, c, t, hh, n, st⟩) := HT8.out.below hbC (by omega)
  have hC8 := M.lks_below h8 hbC
  have HC8 : Hid (M.LksAt wC (some ⟨w5.heap.size + 1, 0, none⟩) ls) := hC8
  clear hwC hbC h8 hC8
  obtain ⟨d0, d1, d2, d3, d4, d5, _⟩ := T6At.cells HTD.out
  rw [HWC.out] at d0 d1 d2 d3 d4 d5
  go_wp2_with fail
  rw [← HWC.out]
  refine (c12t o c t hh n st wC).mono ?_
  rintro e w9 ⟨rfl, hb9⟩
  have hz9 := hb9.size
  have hA9 : Below wA.heap.size wA w9 := hAC.trans (hb9.mono (by omega))
  have hB9 : Below w.heap.size w w9 := hB0.trans (hA9.mono (by omega))
  have h9 := M.lks_below HC8.out hb9
  clear hb9 d0 d1 d2 d3 d4 d5
  go_wp2_with fail
  refine (M.c10 a cap ls w9 hl1 (M.lks_below HAT.out hB9)).mono ?_
  rintro e w10 ⟨⟨rfl, h10⟩, hb10⟩
  have hz10 := hb10.size
  have hB10 : Below w.heap.size w w10 := hB9.trans (hb10.mono (by omega))
  have h9' := M.lks_below h9 hb10
  clear hb10 h9
  go_wp2_with fail
  refine (M.c13 (some ⟨w5.heap.size + 1, 0, none⟩) (some ⟨w9.heap.size, 0, none⟩) ls.length ls.length ls w10 hl1 h9' h10).mono ?_
  rintro e w11 ⟨rfl, hb11⟩
  have hB11 : Below w.heap.size w w11 := hB10.trans (hb11.mono (by omega))
  clear hb11 h9' h10
  go_wp2
  go_ret
  exact ⟨rfl, hB11⟩
end Go.Proofs.YtpjpckmfehfniaaGreatDoor
