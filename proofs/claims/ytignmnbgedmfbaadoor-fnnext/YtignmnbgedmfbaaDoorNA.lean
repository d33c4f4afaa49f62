import Derived.Test.YtignmnbgedmfbaaDoorN5
namespace Go.Proofs.YtignmnbgedmfbaaDoor
open Go.RowKit
set_option maxRecDepth 100000 in
set_option maxHeartbeats 2000000 in
theorem c18n (a : Option Addr) (cap : Nat) (T : List I3) (arg : ByteArray) (a2 : Option Addr) (cap2 : Nat) (reps : List R2) (w : World) (hs : ∀ i, (T.getD i i3z).tx.size ≤ 1048700) (hl : T.length ≤ 1048576) (hat : InsAt w a T) (hno : okT T = false ∨ 300 < arg.size ∨ 14 < reps.length) (har : arg.size ≤ 1048576) (hrl : reps.length ≤ 1048576) :
    Calls Tryd.prog 18 #[.agg #[.slice a T.length cap], .string arg, .slice a2 reps.length cap2] w fun e w' => e = .returned (nextT T arg reps).v ∧ Below w.heap.size w w' := by
  have HIA : Hid (InsAt w a T) := hat
  have HZ : Hid (nextT T arg reps = zeroT) := next_no (by
    rcases hno with h | h | h
    · exact .inl h
    · exact .inr (.inl h)
    · exact .inr (.inr (.inl h)))
  clear hat
  have key : ∀ w1 : World, Below (w.heap.size + 2) (W0 a T.length cap w) w1 → Hid (Below w.heap.size w w1) := fun w1 h => (W0_below a T.length cap w).trans (h.mono (by omega))
  by_cases hok : okT T = true
  · have hno' : 300 < arg.size ∨ 14 < reps.length := by
      rcases hno with h | h
      · rw [hok] at h; cases h
      · exact h
    clear hno
    by_cases h300 : 300 < arg.size
    · clear hno'
      go_enter Tryd.func18, Tryd.ntmps18
      go_wp2_with fail
      refine (c24 a cap T (W0 a T.length cap w) hs hl (ins_below HIA.out (W0_below _ _ _ _))).mono ?_
      rintro e w1 ⟨rfl, hb1⟩
      rw [hok]
      have hb : Below (w.heap.size + 2) (W0 a T.length cap w) w1 := by rw [W0_size] at hb1; exact hb1
      obtain ⟨⟨t0, q0, q1, q2, q3, q4, q5⟩, hfz⟩ := W0_cells hb
      go_wp2
      obtain ⟨s0, s1, s2, s3, s4, s5⟩ := set6 (z6_heap hb) (.bool false) (.int .i64 0) (.string ⟨#[]⟩) (.bool false) (.string ⟨#[]⟩) (.int .i64 0)
      refine bodyPost_ret (v := zeroT.v) (by simp [results, Tryd.results18, go_sem, s0, s1, s2, s3, s4, s5, zeroT, TN.v]) rfl ⟨by rw [HZ.out], ?_⟩
      exact (key w1 hb).out.trans (set6_below (by omega) _ _ _ _ _ _)
    · have h14 : 14 < reps.length := by omega
      clear hno'
      go_enter Tryd.func18, Tryd.ntmps18
      go_wp2_with fail
      refine (c24 a cap T (W0 a T.length cap w) hs hl (ins_below HIA.out (W0_below _ _ _ _))).mono ?_
      rintro e w1 ⟨rfl, hb1⟩
      rw [hok]
      have hb : Below (w.heap.size + 2) (W0 a T.length cap w) w1 := by rw [W0_size] at hb1; exact hb1
      obtain ⟨⟨t0, q0, q1, q2, q3, q4, q5⟩, hfz⟩ := W0_cells hb
      go_wp2
      obtain ⟨s0, s1, s2, s3, s4, s5⟩ := set6 (z6_heap hb) (.bool false) (.int .i64 0) (.string ⟨#[]⟩) (.bool false) (.string ⟨#[]⟩) (.int .i64 0)
      refine bodyPost_ret (v := zeroT.v) (by simp [results, Tryd.results18, go_sem, s0, s1, s2, s3, s4, s5, zeroT, TN.v]) rfl ⟨by rw [HZ.out], ?_⟩
      exact (key w1 hb).out.trans (set6_below (by omega) _ _ _ _ _ _)
  · have hok' : okT T = false := by simpa using hok
    clear hno hok
    go_enter Tryd.func18, Tryd.ntmps18
    go_wp2_with fail
    refine (c24 a cap T (W0 a T.length cap w) hs hl (ins_below HIA.out (W0_below _ _ _ _))).mono ?_
    rintro e w1 ⟨rfl, hb1⟩
    rw [hok']
    have hb : Below (w.heap.size + 2) (W0 a T.length cap w) w1 := by rw [W0_size] at hb1; exact hb1
    obtain ⟨⟨t0, q0, q1, q2, q3, q4, q5⟩, hfz⟩ := W0_cells hb
    go_wp2
    obtain ⟨s0, s1, s2, s3, s4, s5⟩ := set6 (z6_heap hb) (.bool false) (.int .i64 0) (.string ⟨#[]⟩) (.bool false) (.string ⟨#[]⟩) (.int .i64 0)
    refine bodyPost_ret (v := zeroT.v) (by simp [results, Tryd.results18, go_sem, s0, s1, s2, s3, s4, s5, zeroT, TN.v]) rfl ⟨by rw [HZ.out], ?_⟩
    exact (key w1 hb).out.trans (set6_below (by omega) _ _ _ _ _ _)
end Go.Proofs.YtignmnbgedmfbaaDoor
