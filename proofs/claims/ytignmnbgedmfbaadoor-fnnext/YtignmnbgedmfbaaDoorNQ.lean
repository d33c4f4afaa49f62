import Derived.Test.YtignmnbgedmfbaaDoorNP
namespace Go.Proofs.YtignmnbgedmfbaaDoor
open Go.RowKit
section
variable {arg : ByteArray} {reps : List R2} {tx : ByteArray} {to : Int} {s : ST}
theorem act_1 : act arg reps ⟨1, tx, to⟩ s = .inl ⟨tx, s.out, s.pc + 1, s.looks, s.steps + 1⟩ := rfl
theorem act_2 : act arg reps ⟨2, tx, to⟩ s = .inl ⟨arg, s.out, s.pc + 1, s.looks, s.steps + 1⟩ := rfl
theorem act_5y (h : 300 < s.out.length + s.hand.size) : act arg reps ⟨5, tx, to⟩ s = .inr (brk s.pc (s.steps + 1)) := if_pos h
theorem act_5n (h : ¬ 300 < s.out.length + s.hand.size) : act arg reps ⟨5, tx, to⟩ s = .inl ⟨s.hand, s.out ++ s.hand.data.toList, s.pc + 1, s.looks, s.steps + 1⟩ := if_neg h
theorem act_6y (h : 300 < s.hand.size + tx.size) : act arg reps ⟨6, tx, to⟩ s = .inr (brk s.pc (s.steps + 1)) := if_pos h
theorem act_6n (h : ¬ 300 < s.hand.size + tx.size) : act arg reps ⟨6, tx, to⟩ s = .inl ⟨s.hand ++ tx, s.out, s.pc + 1, s.looks, s.steps + 1⟩ := if_neg h
theorem act_7 : act arg reps ⟨7, tx, to⟩ s = .inl ⟨lineAt s.hand to, s.out, s.pc + 1, s.looks, s.steps + 1⟩ := rfl
theorem act_8y (h : s.hand.data.toList = tx.data.toList) : act arg reps ⟨8, tx, to⟩ s = .inl ⟨s.hand, s.out, to.toNat, s.looks, s.steps + 1⟩ := by
  show Sum.inl (ST.mk s.hand s.out (if s.hand.data.toList = tx.data.toList then to.toNat else s.pc + 1) s.looks (s.steps + 1)) = _
  rw [if_pos h]
theorem act_8n (h : ¬ s.hand.data.toList = tx.data.toList) : act arg reps ⟨8, tx, to⟩ s = .inl ⟨s.hand, s.out, s.pc + 1, s.looks, s.steps + 1⟩ := by
  show Sum.inl (ST.mk s.hand s.out (if s.hand.data.toList = tx.data.toList then to.toNat else s.pc + 1) s.looks (s.steps + 1)) = _
  rw [if_neg h]
theorem act_9 : act arg reps ⟨9, tx, to⟩ s = .inl ⟨s.hand, s.out, to.toNat, s.looks, s.steps + 1⟩ := rfl
theorem act_10 : act arg reps ⟨10, tx, to⟩ s = .inr (overT 0 (ofL s.out) (s.steps + 1)) := rfl
theorem act_11 : act arg reps ⟨11, tx, to⟩ s = .inr (overT 1 s.hand (s.steps + 1)) := rfl
theorem act_3 : act arg reps ⟨3, tx, to⟩ s = look ⟨3, tx, to⟩ reps s := rfl
theorem act_4 : act arg reps ⟨4, tx, to⟩ s = look ⟨4, tx, to⟩ reps s := rfl
theorem look_noname {x : I3} (h : nameOk s.hand.data.toList = false) : look x reps s = .inr (overT 4 ⟨#[63]⟩ (s.steps + 1)) := if_pos h
theorem look_spent {x : I3} (h : nameOk s.hand.data.toList = true) (h2 : 14 ≤ s.looks) : look x reps s = .inr (overT 3 ⟨#[]⟩ (s.steps + 1)) := by
  unfold look; rw [if_neg (by simp [h]), if_pos h2]
theorem look_stop {x : I3} (h : nameOk s.hand.data.toList = true) (h2 : ¬ 14 ≤ s.looks) (h3 : reps.length ≤ s.looks) : look x reps s = .inr ⟨false, 0, ⟨#[]⟩, x.op == 4, s.hand, s.steps + 1⟩ := by
  unfold look; rw [if_neg (by simp [h]), if_neg h2, if_pos h3]
theorem look_go {x : I3} (h : nameOk s.hand.data.toList = true) (h2 : ¬ 14 ≤ s.looks) (h3 : ¬ reps.length ≤ s.looks) : look x reps s = if x.op = 4 then .inl ⟨if (reps.getD s.looks r2z).code = 4 then ⟨#[48]⟩ else ⟨#[49]⟩, s.out, s.pc + 1, s.looks + 1, s.steps + 1⟩
  else if (reps.getD s.looks r2z).code = 4 then .inr (overT 4 s.hand (s.steps + 1))
  else if (reps.getD s.looks r2z).code = 0 then .inl ⟨(reps.getD s.looks r2z).tx, s.out, s.pc + 1, s.looks + 1, s.steps + 1⟩
  else .inr (overT 5 s.hand (s.steps + 1)) := by
  unfold look; rw [if_neg (by simp [h]), if_neg h2, if_neg h3]
theorem look_4y (h : nameOk s.hand.data.toList = true) (h2 : ¬ 14 ≤ s.looks) (h3 : ¬ reps.length ≤ s.looks) (h4 : (reps.getD s.looks r2z).code = 4) : look ⟨4, tx, to⟩ reps s = .inl ⟨⟨#[48]⟩, s.out, s.pc + 1, s.looks + 1, s.steps + 1⟩ := by
  rw [look_go h h2 h3, if_pos rfl, if_pos h4]
theorem look_4n (h : nameOk s.hand.data.toList = true) (h2 : ¬ 14 ≤ s.looks) (h3 : ¬ reps.length ≤ s.looks) (h4 : ¬ (reps.getD s.looks r2z).code = 4) : look ⟨4, tx, to⟩ reps s = .inl ⟨⟨#[49]⟩, s.out, s.pc + 1, s.looks + 1, s.steps + 1⟩ := by
  rw [look_go h h2 h3, if_pos rfl, if_neg h4]
theorem look_3m (h : nameOk s.hand.data.toList = true) (h2 : ¬ 14 ≤ s.looks) (h3 : ¬ reps.length ≤ s.looks) (h4 : (reps.getD s.looks r2z).code = 4) : look ⟨3, tx, to⟩ reps s = .inr (overT 4 s.hand (s.steps + 1)) := by
  rw [look_go h h2 h3, if_neg (by simp), if_pos h4]
theorem look_3d (h : nameOk s.hand.data.toList = true) (h2 : ¬ 14 ≤ s.looks) (h3 : ¬ reps.length ≤ s.looks) (h4 : ¬ (reps.getD s.looks r2z).code = 4) (h5 : (reps.getD s.looks r2z).code = 0) : look ⟨3, tx, to⟩ reps s = .inl ⟨(reps.getD s.looks r2z).tx, s.out, s.pc + 1, s.looks + 1, s.steps + 1⟩ := by
  rw [look_go h h2 h3, if_neg (by simp), if_neg h4, if_pos h5]
theorem look_3b (h : nameOk s.hand.data.toList = true) (h2 : ¬ 14 ≤ s.looks) (h3 : ¬ reps.length ≤ s.looks) (h4 : ¬ (reps.getD s.looks r2z).code = 4) (h5 : ¬ (reps.getD s.looks r2z).code = 0) : look ⟨3, tx, to⟩ reps s = .inr (overT 5 s.hand (s.steps + 1)) := by
  rw [look_go h h2 h3, if_neg (by simp), if_neg h4, if_neg h5]
end
/-- One step more. -/
theorem go_on {T : List I3} {arg : ByteArray} {reps : List R2} {x : I3} {s s' : ST} (hx : T.getD s.pc i3z = x) (hpc : s.pc < T.length) (hT : T.length ≤ 40) (hst : s.steps < 200) (hall : T.all okI = true) (ha : arg.size ≤ 300) (hr : okR reps = true) (hf : Fit reps s) (ho : On T arg reps s) (e : act arg reps x s = .inl s') : Fit reps s' ∧ On T arg reps s' := by
  have hok : okI x = true := by rw [← hx]; exact get_ok hall hpc
  exact ⟨act_fit hok ha hr hf (by omega) hst e, on_inl ho (by rw [step_act hpc hst, hx]; exact e)⟩
theorem go_end {T : List I3} {arg : ByteArray} {reps : List R2} {x : I3} {s : ST} {r : TN} (hx : T.getD s.pc i3z = x) (hpc : s.pc < T.length) (hst : s.steps < 200) (ho : On T arg reps s) (e : act arg reps x s = .inr r) : fin T arg reps = r :=
  on_inr ho (by omega) (by rw [step_act hpc hst, hx]; exact e)
theorem end_pc {T : List I3} {arg : ByteArray} {reps : List R2} {s : ST} (h : T.length ≤ s.pc) (hf : Fit reps s) (ho : On T arg reps s) : fin T arg reps = brk s.pc s.steps :=
  on_inr ho hf.steps (by unfold step; rw [if_pos h])
theorem end_steps {T : List I3} {arg : ByteArray} {reps : List R2} {s : ST} (h : s.pc < T.length) (h2 : s.steps = 200) (ho : On T arg reps s) : fin T arg reps = overT 3 ⟨#[]⟩ s.steps :=
  on_inr ho (by omega) (by unfold step; rw [if_neg (by omega), if_pos (by omega)])
theorem ofL_cat (l : List UInt8) (s : ByteArray) : ofL l ++ s = ofL (l ++ s.data.toList) := by
  apply ByteArray.ext
  simp [ofL]
end Go.Proofs.YtignmnbgedmfbaaDoor
