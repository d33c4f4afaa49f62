import Derived.Test.YtpjpckmfehfniaaGreatDoorGA
import Derived.Test.YtpjpckmfehfniaaGreatDoorZC21
namespace Go.Proofs.YtpjpckmfehfniaaGreatDoor
open Go.RowKit
theorem goL_bad {tl ar : ByteArray} (ls : List M.L4) : ∀ (t : TN) (s : RS), (∃ i, i < ls.length ∧ ¬ M.LkOk (ls.getD i M.l4z)) → goL tl ar t s ls = zeroT := by
 induction ls with
 | nil => rintro t s ⟨i, h, _⟩; exact absurd h (Nat.not_lt_zero _)
 | cons x xs ih =>
   rintro t s ⟨i, hi, hb⟩
   by_cases hh : Halt t x
   · exact goL_halt hh
   · rw [goL_go hh]
     cases i with
     | zero => exact absurd (.inr (.inr (.inr hb))) hh
     | succ i => exact ih _ _ ⟨i, by simpa using hi, hb⟩
set_option maxHeartbeats 8000000 in
set_option maxRecDepth 100000 in
theorem c8n (m : M.M3) (a : Option Addr) (cap : Nat) (ls : List M.L4) (w : World) (hm : m.le 1048576) (hno : M.okM m = false ∨ ¬ M.LksOk ls) (hl : ls.length ≤ 1048576) (hs : ∀ i, (ls.getD i M.l4z).le 1048576) (hat : M.LksAt w a ls) :
 Calls Tryz.prog 8 #[.agg #[.string m.nm, .string m.tl, .string m.ar], .slice a ls.length cap] w fun e w' => e = .returned zeroT.v ∧ Below w.heap.size w w' := by
 have hml : m.le 1048700 := ⟨by have := hm.1; omega, by have := hm.2.1; omega, by have := hm.2.2; omega⟩
 have HAT : Hid (M.LksAt w a ls) := hat
 have HNO : Hid (M.okM m = false ∨ ¬ M.LksOk ls) := hno
 clear hat hno
 have HW : Hid (WS m w = (((w.alloc (.cells #[.string m.nm, .string m.tl, .string m.ar] 32)).alloc (.cells #[.bool false, .int .i64 0, .string ⟨#[]⟩, .bool false, .string ⟨#[]⟩, .int .i64 0] 30)).alloc (.cells #[.bool false, .int .i64 0, .string ⟨#[]⟩, .bool false, .string ⟨#[]⟩, .int .i64 0] 30))) := rfl
 rcases hk : M.okM m with _ | _
 · go_enter Tryz.func8, Tryz.ntmps8
   go_wp2_with fail
   rw [← HW.out]
   refine (M.c32v hk _ hml).mono ?_
   rintro e w1 ⟨rfl, hb1⟩
   have HBa : Hid (Below (w.heap.size + 3) (WS m w) w1) := hb1.mono (by rw [WS_size]; omega)
   clear hb1
   go_wp2_with (first | (refine wp_loadT rfl (.tmp 5) rfl (w.heap.size + 1 + 1) rfl zeroT (WS_n HBa.out) ?_) | (refine wp_turn rfl (.tmp 4) _ rfl (w.heap.size + 1) rfl zeroT zeroT rfl (WS_z HBa.out) rfl ?_; intro u' hT' hB' _))
   refine bodyPost_ret (v := zeroT.v) (M.results_blk (P := Tryz.prog) (ty := 30) rfl _ _ (w.heap.size + 1) _ _ rfl hT'.blk Tryz.underlying30 rfl (by kernel_rfl)) rfl ⟨rfl, ?_⟩
   exact ((WS_below m w).trans (HBa.out.mono (by omega))).trans (hB' _ (by omega))
 · go_enter Tryz.func8, Tryz.ntmps8
   go_wp2_with fail
   rw [← HW.out]
   refine (M.c32v hk _ hml).mono ?_
   rintro e w1 ⟨rfl, hb1⟩
   have HB1 : Hid (Below (w.heap.size + 3) (WS m w) w1) := hb1.mono (by rw [WS_size]; omega)
   have hz1 : w.heap.size + 3 ≤ w1.heap.size := by have := hb1.size; rw [WS_size] at this; exact this
   have hBw1 : Below w.heap.size w w1 := (WS_below m w).trans (HB1.out.mono (by omega))
   clear hb1
   go_wp2_with fail
   refine (M.c33 a cap ls w1 hl hs (M.lks_below HAT.out hBw1)).mono ?_
   rintro e w2 ⟨⟨r, rfl, hr⟩, hb2⟩
   have hrt : r = false := by
    rcases HNO.out with h | h
    · rw [hk] at h; cases h
    · cases r
      · rfl
      · exact absurd (hr.1 rfl) h
   subst hrt
   have HBa : Hid (Below (w.heap.size + 3) (WS m w) w2) := HB1.out.trans (hb2.mono (by omega))
   clear hb2 hBw1 HB1 hr
   go_wp2_with (first | (refine wp_loadT rfl (.tmp 5) rfl (w.heap.size + 1 + 1) rfl zeroT (WS_n HBa.out) ?_) | (refine wp_turn rfl (.tmp 4) _ rfl (w.heap.size + 1) rfl zeroT zeroT rfl (WS_z HBa.out) rfl ?_; intro u' hT' hB' _))
   refine bodyPost_ret (v := zeroT.v) (M.results_blk (P := Tryz.prog) (ty := 30) rfl _ _ (w.heap.size + 1) _ _ rfl hT'.blk Tryz.underlying30 rfl (by kernel_rfl)) rfl ⟨rfl, ?_⟩
   exact ((WS_below m w).trans (HBa.out.mono (by omega))).trans (hB' _ (by omega))
theorem c8 (m : M.M3) (a : Option Addr) (cap : Nat) (ls : List M.L4) (w : World) (hm : m.le 1048576) (hl : ls.length ≤ 1048576) (hs : ∀ i, (ls.getD i M.l4z).le 1048576) (hat : M.LksAt w a ls) :
 Calls Tryz.prog 8 #[.agg #[.string m.nm, .string m.tl, .string m.ar], .slice a ls.length cap] w fun e w' => e = .returned (goT m ls).v ∧ Below w.heap.size w w' := by
 by_cases hk : M.okM m = true
 · by_cases h15 : ls.length ≤ 15
   · rw [goT_yes hk h15]
     by_cases hok : M.LksOk ls
     · exact c8y m a cap ls w hm hk hok hs hat
     · have hb : ∃ i, i < ls.length ∧ ¬ M.LkOk (ls.getD i M.l4z) := by
        apply Classical.byContradiction
        intro h
        exact hok ⟨h15, fun i hi => Classical.byContradiction fun h' => h ⟨i, hi, h'⟩⟩
       rw [goL_bad ls _ _ hb]
       exact c8n m a cap ls w hm (.inr hok) hl hs hat
   · rw [goT_no (.inr (by omega))]
     exact c8n m a cap ls w hm (.inr fun h => h15 h.1) hl hs hat
 · have hk' : M.okM m = false := by simpa using hk
   rw [goT_no (.inl hk')]
   exact c8n m a cap ls w hm (.inl hk') hl hs hat
theorem c11 (m : M.M3) (a : Option Addr) (cap : Nat) (ls : List M.L4) (w : World) (hm : m.le 1048576) (hl : ls.length ≤ 1048576) (hs : ∀ i, (ls.getD i M.l4z).le 1048576) (hat : M.LksAt w a ls) (hsh : ShapesAt w) (hmx : MaxAt w) :
 Calls Tryz.prog 11 #[.agg #[.string m.nm, .string m.tl, .string m.ar], .slice a ls.length cap] w fun e w' => e = .returned (goT m ls).v ∧ Below w.heap.size w w' := by
 by_cases hk : M.okM m = true
 · by_cases h15 : ls.length ≤ 15
   · rw [goT_yes hk h15]
     exact c11y m a cap ls w hm hk h15 hs hat hsh hmx
   · rw [goT_no (.inr (by omega))]
     exact c11n m a cap ls w hm hl (.inr (by omega))
 · have hk' : M.okM m = false := by simpa using hk
   rw [goT_no (.inl hk')]
   exact c11n m a cap ls w hm hl (.inl hk')
end Go.Proofs.YtpjpckmfehfniaaGreatDoor
namespace Go.Proofs.YtpjpckmfehfniaaGreatDoor
open Go.RowKit
theorem c8t {o : Bool} {c : Int} {t : ByteArray} {h : Bool} {n : ByteArray} {k : Int} (m : M.M3) (a : Option Addr) (cap : Nat) (ls : List M.L4) (w : World) (hm : m.le 1048576) (hl : ls.length ≤ 1048576) (hs : ∀ i, (ls.getD i M.l4z).le 1048576) (hat : M.LksAt w a ls) (e : goT m ls = ⟨o, c, t, h, n, k⟩) :
 Calls Tryz.prog 8 #[.agg #[.string m.nm, .string m.tl, .string m.ar], .slice a ls.length cap] w fun e w' => e = .returned (.agg #[.bool o, .int .i64 c, .string t, .bool h, .string n, .int .i64 k]) ∧ Below w.heap.size w w' := by
 have := c8 m a cap ls w hm hl hs hat
 rw [e] at this
 exact this
theorem c11t {o : Bool} {c : Int} {t : ByteArray} {h : Bool} {n : ByteArray} {k : Int} (m : M.M3) (a : Option Addr) (cap : Nat) (ls : List M.L4) (w : World) (hm : m.le 1048576) (hl : ls.length ≤ 1048576) (hs : ∀ i, (ls.getD i M.l4z).le 1048576) (hat : M.LksAt w a ls) (hsh : ShapesAt w) (hmx : MaxAt w) (e : goT m ls = ⟨o, c, t, h, n, k⟩) :
 Calls Tryz.prog 11 #[.agg #[.string m.nm, .string m.tl, .string m.ar], .slice a ls.length cap] w fun e w' => e = .returned (.agg #[.bool o, .int .i64 c, .string t, .bool h, .string n, .int .i64 k]) ∧ Below w.heap.size w w' := by
 have := c11 m a cap ls w hm hl hs hat hsh hmx
 rw [e] at this
 exact this
end Go.Proofs.YtpjpckmfehfniaaGreatDoor
