import Derived.Test.YtpjpckmfehfniaaGreatDoorNF
import Derived.Test.YtpjpckmfehfniaaGreatDoorZC13
namespace Go.Proofs.YtpjpckmfehfniaaGreatDoor
open Go.RowKit
theorem ins_toB {base b : Nat} {w w' : World} {a : Option Addr} {T : List I3} (h : InsAt w a T) (hb : Below w.heap.size w w') (hz : w.heap.size ≤ base) (hbb : w.heap.size ≤ b) : InsB base b w' a T := by
 rcases h with h | ⟨ib, off, h1, h2, h3⟩
 · exact .inl h
 · exact .inr ⟨ib, off, h1, by omega, by omega, fun i hi => by rw [hb.cell (by exact h2), hb.cell (by exact h2), hb.cell (by exact h2)]; exact h3 i hi⟩
theorem res_toB {base b : Nat} {w w' : World} {a : Option Addr} {rs : List R2} (h : ResAt w a rs) (hb : Below w.heap.size w w') (hz : w.heap.size ≤ base) (hbb : w.heap.size ≤ b) : RepAt base b w' a rs := by
 rcases h with h | ⟨ib, off, h1, h2, h3⟩
 · exact .inl h
 · exact .inr ⟨ib, off, h1, by omega, by omega, fun i hi => by rw [hb.cell (by exact h2), hb.cell (by exact h2)]; exact h3 i hi⟩
set_option maxRecDepth 100000 in
set_option maxHeartbeats 4000000 in
theorem c89y (a : Option Addr) (cap : Nat) (T : List I3) (arg : ByteArray) (a2 : Option Addr) (cap2 : Nat) (reps : List R2) (w : World) (hs : ∀ i, (T.getD i i3z).tx.size ≤ 1048700) (hl : T.length ≤ 1048576) (hat : InsAt w a T) (hok : okT T = true) (hr : reps.length ≤ 14) (ha : arg.size ≤ 300) (hat2 : ResAt w a2 reps) (hs2 : ∀ i, (reps.getD i r2z).tx.size ≤ 1048700) (hsh : ShapesAt w) (hmax : MaxAt w) :
 Calls Tryz.prog 89 #[.agg #[.slice a T.length cap], .string arg, .slice a2 reps.length cap2] w fun e w' => e = .returned (nextT T arg reps).v ∧ Below w.heap.size w w' := by
 have HIA : Hid (InsAt w a T) := hat
 have HSH : Hid (ShapesAt w) := hsh
 have HRA : Hid (ResAt w a2 reps) := hat2
 have HMX : Hid (MaxAt w) := hmax
 have hone : 1 < w.heap.size := hmax.1
 obtain ⟨rb, roff, hc⟩ := res_some hat2
 have HC : Hid (reps = [] ∨ (a2 = some ⟨rb, roff, none⟩ ∧ rb < w.heap.size ∧ ∀ i, i < reps.length → w.cell? ⟨rb, roff + i * 2, none⟩ = some (.int .i64 (reps.getD i r2z).code) ∧ w.cell? ⟨rb, roff + i * 2 + 1, none⟩ = some (.string (reps.getD i r2z).tx))) := hc
 clear hat hsh hat2 hmax hc
 go_enter Tryz.func89, Tryz.ntmps89
 go_wp2_with fail
 refine (c119 a cap T (W0 a T.length cap w) hs hl (ins_below HIA.out (W0_below _ _ _ _)) (shapes_below HSH.out (W0_below _ _ _ _))).mono ?_
 rintro e w1 ⟨rfl, hb1⟩
 rw [hok]
 have hb : Below (w.heap.size + 2) (W0 a T.length cap w) w1 := by rw [W0_size] at hb1; exact hb1
 obtain ⟨⟨t0, q0, q1, q2, q3, q4, q5⟩, hfz⟩ := W0_cells hb
 go_wp2_with fail
 clear t0 q0 q1 q2 q3 q4 q5 hfz hb1
 go_loopw [26] (fun i wr => ∃ k : Nat, k ≤ reps.length ∧ i = .int .i64 k ∧ Hid (okR (reps.take k) = true) ∧ Below (w.heap.size + 2) (W0 a T.length cap w) wr) (fun i _ => reps.length - (intOf i).toNat)
 case atStart => exact ⟨0, Nat.zero_le _, rfl, rfl, hb⟩
 case round =>
  clear hb
  obtain ⟨k, hk, rfl, hko, hb⟩ := hrel
  have hBw : Below w.heap.size w wr := (W0_below a T.length cap w).trans (hb.mono (by omega))
  have hzz : w.heap.size + 2 ≤ wr.heap.size := by have := hb.size; rw [W0_size] at this; exact this
  by_cases hlt : k < reps.length
  · rcases HC.out with hss | ⟨ha2, hrw, hcell⟩
    · rw [hss] at hlt; exact absurd hlt (Nat.not_lt_zero _)
    subst ha2
    have x0 := (hBw.cell (p := ⟨rb, roff + k * 2, none⟩) hrw).trans (hcell k hlt).1
    have x1 := (hBw.cell (p := ⟨rb, roff + k * 2 + 1, none⟩) hrw).trans (hcell k hlt).2
    have hxs := hs2 k
    have hrw' : rb < wr.heap.size := by omega
    generalize hx : reps.getD k r2z = x at *
    have HX : Hid (reps.getD k r2z = x) := hx
    clear hx hcell
    go_wp2_with fail
    refine (c92 x.code x.tx _ hxs).mono ?_
    rintro e w2 ⟨rfl, hb2⟩
    have hb' : Below (w.heap.size + 2) (W0 a T.length cap w) w2 := (hb.alloc hzz _).trans (hb2.mono (by simp; omega))
    by_cases hv : vr x.code x.tx.data.toList = true
    · have hko' : Hid (okR (reps.take (k + 1)) = true) := all_snocR hlt hko.out (by rw [HX.out]; exact hv)
      rw [hv]
      clear hv hb2
      go_wp2
      go_roundw
      case rel => exact ⟨k + 1, by omega, by go_num, hko', hb'⟩
      case measure => simp [intOf]; omega
    · have hv' : vr x.code x.tx.data.toList = false := by simpa using hv
      have HZ : Hid (nextT T arg reps = zeroT) := next_no (.inr (.inr (.inr (all_notR hlt (by rw [HX.out]; exact hv')))))
      rw [hv']
      clear hv hv' hb2
      obtain ⟨⟨t0, q0, q1, q2, q3, q4, q5⟩, hfz⟩ := W0_cells hb'
      go_wp2
      obtain ⟨s0, s1, s2, s3, s4, s5⟩ := set6 (z6_heap hb') (.bool false) (.int .i64 0) (.string ⟨#[]⟩) (.bool false) (.string ⟨#[]⟩) (.int .i64 0)
      refine bodyPost_ret (v := zeroT.v) (by simp [results, Tryz.results89, go_sem, s0, s1, s2, s3, s4, s5, zeroT, TN.v]) rfl ⟨by rw [HZ.out], ?_⟩
      exact ((W0_below a T.length cap w).trans (hb'.mono (by omega))).trans (set6_below (by omega) _ _ _ _ _ _)
  · have hall : Hid (okR reps = true) := by have := hko.out; rw [List.take_of_length_le (by omega)] at this; exact this
    have HNX : Hid (nextT T arg reps = fin T arg reps) := next_yes hok ha hr hall.out
    obtain ⟨⟨t0, q0, q1, q2, q3, q4, q5⟩, hfz⟩ := W0_cells hb
    clear q0 q1 q2 q3 q4 q5 hfz hko
    have hBx : ∀ o, Below w.heap.size w (wr.alloc o) := fun o => hBw.alloc (by omega) o
    have HBx : Hid (∀ o, Below w.heap.size w (wr.alloc o)) := hBx
    have HRN : Hid (RunAt (wr.alloc (.cells (rcL (.pointer none) (.slice none 0 0) arg (.slice a2 reps.length cap2) 0 s0).cells 164)) wr.heap.size (rcL (.pointer none) (.slice none 0 0) arg (.slice a2 reps.length cap2) 0 s0)) := alloc_new rfl _
    have hwlt : w.heap.size < wr.heap.size := by omega
    clear hBx
    go_wp2_with fail
    refine (c120 wr.heap.size a cap T arg a2 cap2 reps (wr.alloc (.cells (rcL (.pointer none) (.slice none 0 0) arg (.slice a2 reps.length cap2) 0 s0).cells 164)) HRN.out (ins_toB HIA.out (HBx.out _) (by simp; omega) (by omega)) (res_toB HRA.out (HBx.out _) (by simp; omega) (by omega)) (max_below HMX.out (HBx.out _)) (by omega) hok ha hr hall.out).mono ?_
    rintro e w2 ⟨rfl, ⟨r, hrn, hrh, hrt⟩, hk2⟩
    have hb2 : Below (w.heap.size + 2) (W0 a T.length cap w) w2 := (hb.alloc hzz _).trans (hk2.below hzz (by simp; omega))
    obtain ⟨⟨t2, q0, q1, q2, q3, q4, q5⟩, hfz⟩ := W0_cells hb2
    have d9 : w2.cell? ⟨wr.heap.size, 9, none⟩ = some (.bool r.over) := run_cell hrn 9
    have d10 : w2.cell? ⟨wr.heap.size, 10, none⟩ = some (.int .i64 r.code) := run_cell hrn 10
    have d11 : w2.cell? ⟨wr.heap.size, 11, none⟩ = some (.string r.text) := run_cell hrn 11
    have d12 : w2.cell? ⟨wr.heap.size, 12, none⟩ = some (.bool r.has) := run_cell hrn 12
    have d13 : w2.cell? ⟨wr.heap.size, 13, none⟩ = some (.string r.name) := run_cell hrn 13
    have d14 : w2.cell? ⟨wr.heap.size, 14, none⟩ = some (.int .i64 r.steps) := run_cell hrn 14
    have HT : Hid (nextT T arg reps = r.tn) := HNX.out.trans hrt.symm
    clear hrn hrt hk2 t0
    go_wp2
    obtain ⟨s0, s1, s2, s3, s4, s5⟩ := set6 (z6_heap hb2) (.bool r.over) (.int .i64 r.code) (.string r.text) (.bool r.has) (.string r.name) (.int .i64 r.steps)
    refine bodyPost_ret (v := r.tn.v) (by simp [results, Tryz.results89, go_sem, s0, s1, s2, s3, s4, s5, RC.tn, TN.v]) rfl ⟨by rw [HT.out], ?_⟩
    exact ((W0_below a T.length cap w).trans (hb2.mono (by omega))).trans (set6_below (by omega) _ _ _ _ _ _)
end Go.Proofs.YtpjpckmfehfniaaGreatDoor
namespace Go.Proofs.YtpjpckmfehfniaaGreatDoor
open Go.RowKit
set_option maxRecDepth 100000 in
set_option maxHeartbeats 2000000 in
theorem c89n (a : Option Addr) (cap : Nat) (T : List I3) (arg : ByteArray) (a2 : Option Addr) (cap2 : Nat) (reps : List R2) (w : World) (hs : ∀ i, (T.getD i i3z).tx.size ≤ 1048700) (hl : T.length ≤ 1048576) (hat : InsAt w a T) (hno : okT T = false ∨ 300 < arg.size ∨ 14 < reps.length) (hsh : ShapesAt w) (har : arg.size ≤ 1048576) (hrl : reps.length ≤ 1048576) :
 Calls Tryz.prog 89 #[.agg #[.slice a T.length cap], .string arg, .slice a2 reps.length cap2] w fun e w' => e = .returned (nextT T arg reps).v ∧ Below w.heap.size w w' := by
 have HIA : Hid (InsAt w a T) := hat
 have HZ : Hid (nextT T arg reps = zeroT) := next_no (by
  rcases hno with h | h | h
  · exact .inl h
  · exact .inr (.inl h)
  · exact .inr (.inr (.inl h)))
 have HSH : Hid (ShapesAt w) := hsh
 clear hat hsh
 have key : ∀ w1 : World, Below (w.heap.size + 2) (W0 a T.length cap w) w1 → Hid (Below w.heap.size w w1) := fun w1 h => (W0_below a T.length cap w).trans (h.mono (by omega))
 by_cases hok : okT T = true
 · have hno' : 300 < arg.size ∨ 14 < reps.length := by
    rcases hno with h | h
    · rw [hok] at h; cases h
    · exact h
   clear hno
   by_cases h300 : 300 < arg.size
   · clear hno'
     go_enter Tryz.func89, Tryz.ntmps89
     go_wp2_with fail
     refine (c119 a cap T (W0 a T.length cap w) hs hl (ins_below HIA.out (W0_below _ _ _ _)) (shapes_below HSH.out (W0_below _ _ _ _))).mono ?_
     rintro e w1 ⟨rfl, hb1⟩
     rw [hok]
     have hb : Below (w.heap.size + 2) (W0 a T.length cap w) w1 := by rw [W0_size] at hb1; exact hb1
     obtain ⟨⟨t0, q0, q1, q2, q3, q4, q5⟩, hfz⟩ := W0_cells hb
     go_wp2
     obtain ⟨s0, s1, s2, s3, s4, s5⟩ := set6 (z6_heap hb) (.bool false) (.int .i64 0) (.string ⟨#[]⟩) (.bool false) (.string ⟨#[]⟩) (.int .i64 0)
     refine bodyPost_ret (v := zeroT.v) (by simp [results, Tryz.results89, go_sem, s0, s1, s2, s3, s4, s5, zeroT, TN.v]) rfl ⟨by rw [HZ.out], ?_⟩
     exact (key w1 hb).out.trans (set6_below (by omega) _ _ _ _ _ _)
   · have h14 : 14 < reps.length := by omega
     clear hno'
     go_enter Tryz.func89, Tryz.ntmps89
     go_wp2_with fail
     refine (c119 a cap T (W0 a T.length cap w) hs hl (ins_below HIA.out (W0_below _ _ _ _)) (shapes_below HSH.out (W0_below _ _ _ _))).mono ?_
     rintro e w1 ⟨rfl, hb1⟩
     rw [hok]
     have hb : Below (w.heap.size + 2) (W0 a T.length cap w) w1 := by rw [W0_size] at hb1; exact hb1
     obtain ⟨⟨t0, q0, q1, q2, q3, q4, q5⟩, hfz⟩ := W0_cells hb
     go_wp2
     obtain ⟨s0, s1, s2, s3, s4, s5⟩ := set6 (z6_heap hb) (.bool false) (.int .i64 0) (.string ⟨#[]⟩) (.bool false) (.string ⟨#[]⟩) (.int .i64 0)
     refine bodyPost_ret (v := zeroT.v) (by simp [results, Tryz.results89, go_sem, s0, s1, s2, s3, s4, s5, zeroT, TN.v]) rfl ⟨by rw [HZ.out], ?_⟩
     exact (key w1 hb).out.trans (set6_below (by omega) _ _ _ _ _ _)
 · have hok' : okT T = false := by simpa using hok
   clear hno hok
   go_enter Tryz.func89, Tryz.ntmps89
   go_wp2_with fail
   refine (c119 a cap T (W0 a T.length cap w) hs hl (ins_below HIA.out (W0_below _ _ _ _)) (shapes_below HSH.out (W0_below _ _ _ _))).mono ?_
   rintro e w1 ⟨rfl, hb1⟩
   rw [hok']
   have hb : Below (w.heap.size + 2) (W0 a T.length cap w) w1 := by rw [W0_size] at hb1; exact hb1
   obtain ⟨⟨t0, q0, q1, q2, q3, q4, q5⟩, hfz⟩ := W0_cells hb
   go_wp2
   obtain ⟨s0, s1, s2, s3, s4, s5⟩ := set6 (z6_heap hb) (.bool false) (.int .i64 0) (.string ⟨#[]⟩) (.bool false) (.string ⟨#[]⟩) (.int .i64 0)
   refine bodyPost_ret (v := zeroT.v) (by simp [results, Tryz.results89, go_sem, s0, s1, s2, s3, s4, s5, zeroT, TN.v]) rfl ⟨by rw [HZ.out], ?_⟩
   exact (key w1 hb).out.trans (set6_below (by omega) _ _ _ _ _ _)
end Go.Proofs.YtpjpckmfehfniaaGreatDoor
namespace Go.Proofs.YtpjpckmfehfniaaGreatDoor
open Go.RowKit
set_option maxRecDepth 100000 in
set_option maxHeartbeats 2000000 in
theorem c34n (a : Option Addr) (cap : Nat) (T : List I3) (arg : ByteArray) (a2 : Option Addr) (cap2 : Nat) (reps : List R2) (w : World) (hs : ∀ i, (T.getD i i3z).tx.size ≤ 1048700) (hl : T.length ≤ 1048576) (hat : InsAt w a T) (hno : okT T = false ∨ 300 < arg.size ∨ 14 < reps.length) (har : arg.size ≤ 1048576) (hrl : reps.length ≤ 1048576) :
 Calls Tryz.prog 34 #[.agg #[.slice a T.length cap], .string arg, .slice a2 reps.length cap2] w fun e w' => e = .returned (nextT T arg reps).v ∧ Below w.heap.size w w' := by
 have HIA : Hid (InsAt w a T) := hat
 have HZ : Hid (nextT T arg reps = zeroT) := next_no (by
  rcases hno with h | h | h
  · exact .inl h
  · exact .inr (.inl h)
  · exact .inr (.inr (.inl h)))
 clear hat
 have key : ∀ w1 : World, Below (w.heap.size + 2) (W0 a T.length cap w) w1 → Hid (Below w.heap.size w w1) := fun w1 h => (W0_below a T.length cap w).trans (h.mono (by omega))
 by_cases hok : okT T = true
 · have hno' : 300 < arg.size ∨ 14 < reps.length := by
    rcases hno with h | h
    · rw [hok] at h; cases h
    · exact h
   clear hno
   by_cases h300 : 300 < arg.size
   · clear hno'
     go_enter Tryz.func34, Tryz.ntmps34
     go_wp2_with fail
     refine (c75 a cap T (W0 a T.length cap w) hs hl (ins_below HIA.out (W0_below _ _ _ _))).mono ?_
     rintro e w1 ⟨rfl, hb1⟩
     rw [hok]
     have hb : Below (w.heap.size + 2) (W0 a T.length cap w) w1 := by rw [W0_size] at hb1; exact hb1
     obtain ⟨⟨t0, q0, q1, q2, q3, q4, q5⟩, hfz⟩ := W0_cells hb
     go_wp2
     obtain ⟨s0, s1, s2, s3, s4, s5⟩ := set6 (z6_heap hb) (.bool false) (.int .i64 0) (.string ⟨#[]⟩) (.bool false) (.string ⟨#[]⟩) (.int .i64 0)
     refine bodyPost_ret (v := zeroT.v) (by simp [results, Tryz.results34, go_sem, s0, s1, s2, s3, s4, s5, zeroT, TN.v]) rfl ⟨by rw [HZ.out], ?_⟩
     exact (key w1 hb).out.trans (set6_below (by omega) _ _ _ _ _ _)
   · have h14 : 14 < reps.length := by omega
     clear hno'
     go_enter Tryz.func34, Tryz.ntmps34
     go_wp2_with fail
     refine (c75 a cap T (W0 a T.length cap w) hs hl (ins_below HIA.out (W0_below _ _ _ _))).mono ?_
     rintro e w1 ⟨rfl, hb1⟩
     rw [hok]
     have hb : Below (w.heap.size + 2) (W0 a T.length cap w) w1 := by rw [W0_size] at hb1; exact hb1
     obtain ⟨⟨t0, q0, q1, q2, q3, q4, q5⟩, hfz⟩ := W0_cells hb
     go_wp2
     obtain ⟨s0, s1, s2, s3, s4, s5⟩ := set6 (z6_heap hb) (.bool false) (.int .i64 0) (.string ⟨#[]⟩) (.bool false) (.string ⟨#[]⟩) (.int .i64 0)
     refine bodyPost_ret (v := zeroT.v) (by simp [results, Tryz.results34, go_sem, s0, s1, s2, s3, s4, s5, zeroT, TN.v]) rfl ⟨by rw [HZ.out], ?_⟩
     exact (key w1 hb).out.trans (set6_below (by omega) _ _ _ _ _ _)
 · have hok' : okT T = false := by simpa using hok
   clear hno hok
   go_enter Tryz.func34, Tryz.ntmps34
   go_wp2_with fail
   refine (c75 a cap T (W0 a T.length cap w) hs hl (ins_below HIA.out (W0_below _ _ _ _))).mono ?_
   rintro e w1 ⟨rfl, hb1⟩
   rw [hok']
   have hb : Below (w.heap.size + 2) (W0 a T.length cap w) w1 := by rw [W0_size] at hb1; exact hb1
   obtain ⟨⟨t0, q0, q1, q2, q3, q4, q5⟩, hfz⟩ := W0_cells hb
   go_wp2
   obtain ⟨s0, s1, s2, s3, s4, s5⟩ := set6 (z6_heap hb) (.bool false) (.int .i64 0) (.string ⟨#[]⟩) (.bool false) (.string ⟨#[]⟩) (.int .i64 0)
   refine bodyPost_ret (v := zeroT.v) (by simp [results, Tryz.results34, go_sem, s0, s1, s2, s3, s4, s5, zeroT, TN.v]) rfl ⟨by rw [HZ.out], ?_⟩
   exact (key w1 hb).out.trans (set6_below (by omega) _ _ _ _ _ _)
end Go.Proofs.YtpjpckmfehfniaaGreatDoor
