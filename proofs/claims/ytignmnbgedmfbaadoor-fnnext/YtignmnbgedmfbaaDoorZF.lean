import Derived.Test.YtignmnbgedmfbaaDoorNQ
import Derived.Test.YtignmnbgedmfbaaDoorDH
import Derived.Test.YtignmnbgedmfbaaDoorNI
import Derived.Deep.RegionHeld3
import Derived.OpenShut
import Derived.Test.YtignmnbgedmfbaaDoorZT
import Derived.Test.YtignmnbgedmfbaaDoorCards
import Derived.Test.YtignmnbgedmfbaaDoorTie
import Derived.Deep.DeepHandedRow
import Derived.SevenTiedAt
import Derived.Shelf.Vars
import Derived.ShutString
namespace Go.Proofs.YtignmnbgedmfbaaDoor
open Go.RowKit
theorem name_pos {s : ByteArray} (h : nameOk s.data.toList = true) : 1 ≤ s.size := by
  rcases Nat.eq_zero_or_pos s.size with h0 | h0
  · rw [name_short s (by omega)] at h; cases h
  · exact h0
/-- A turn that an instruction comes to. -/
def EndsAt (k : Int) (r : TN) : Prop := r.steps = k ∧ (r.over = false → 1 ≤ r.name.size)
theorem ends_over (c : Int) (t : ByteArray) (k : Int) : EndsAt k (overT c t k) := ⟨rfl, fun h => by cases h⟩
theorem act_inr {arg : ByteArray} {reps : List R2} {x : I3} {s : ST} {r : TN} (e : act arg reps x s = .inr r) : EndsAt (s.steps + 1) r := by
  unfold act look at e
  by_cases h1 : x.op = 1
  · rw [if_pos h1] at e
    injection e
  rw [if_neg h1] at e
  by_cases h2 : x.op = 2
  · rw [if_pos h2] at e
    injection e
  rw [if_neg h2] at e
  by_cases h5 : x.op = 5
  · rw [if_pos h5] at e
    by_cases hc : 300 < s.out.length + s.hand.size
    · rw [if_pos hc] at e
      injection e with e
      subst e
      exact ends_over _ _ _
    · rw [if_neg hc] at e
      injection e
  rw [if_neg h5] at e
  by_cases h6 : x.op = 6
  · rw [if_pos h6] at e
    by_cases hc : 300 < s.hand.size + x.tx.size
    · rw [if_pos hc] at e
      injection e with e
      subst e
      exact ends_over _ _ _
    · rw [if_neg hc] at e
      injection e
  rw [if_neg h6] at e
  by_cases h7 : x.op = 7
  · rw [if_pos h7] at e
    injection e
  rw [if_neg h7] at e
  by_cases h8 : x.op = 8
  · rw [if_pos h8] at e
    injection e
  rw [if_neg h8] at e
  by_cases h9 : x.op = 9
  · rw [if_pos h9] at e
    injection e
  rw [if_neg h9] at e
  by_cases h10 : x.op = 10
  · rw [if_pos h10] at e
    injection e with e
    subst e
    exact ends_over _ _ _
  rw [if_neg h10] at e
  by_cases h11 : x.op = 11
  · rw [if_pos h11] at e
    injection e with e
    subst e
    exact ends_over _ _ _
  rw [if_neg h11] at e
  by_cases ga : nameOk s.hand.data.toList = false
  · rw [if_pos ga] at e
    injection e with e
    subst e
    exact ends_over _ _ _
  rw [if_neg ga] at e
  by_cases gb : 14 ≤ s.looks
  · rw [if_pos gb] at e
    injection e with e
    subst e
    exact ends_over _ _ _
  rw [if_neg gb] at e
  by_cases gc : reps.length ≤ s.looks
  · rw [if_pos gc] at e
    injection e with e
    subst e
    exact ⟨rfl, fun _ => name_pos (by simpa using ga)⟩
  rw [if_neg gc] at e
  by_cases h4 : x.op = 4
  · rw [if_pos h4] at e
    injection e
  rw [if_neg h4] at e
  by_cases gd : (reps.getD s.looks r2z).code = 4
  · rw [if_pos gd] at e
    injection e with e
    subst e
    exact ends_over _ _ _
  rw [if_neg gd] at e
  by_cases ge : (reps.getD s.looks r2z).code = 0
  · rw [if_pos ge] at e
    injection e
  rw [if_neg ge] at e
  injection e with e
  subst e
  exact ends_over _ _ _
theorem next_yesJ {T : List I3} {arg : ByteArray} {reps : List R2} (h1 : okT T = true) (h2 : arg.size ≤ 300) (h3 : reps.length ≤ 14) (h4 : okR reps = true) : nextT T arg reps = fin T arg reps := by
  unfold nextT
  rw [if_pos ⟨h1, h2, h3, h4⟩]
theorem step_inr {T : List I3} {arg : ByteArray} {reps : List R2} {s : ST} {r : TN} (e : step T arg reps s = .inr r) : (s.steps : Int) ≤ r.steps ∧ (r.over = false → 1 ≤ r.name.size) := by
  unfold step at e
  split at e
  · injection e with e
    subst e
    exact ⟨Int.le_refl _, fun h => by cases h⟩
  · split at e
    · injection e with e
      subst e
      exact ⟨Int.le_refl _, fun h => by cases h⟩
    · obtain ⟨h1, h2⟩ := act_inr e
      exact ⟨by rw [h1]; omega, h2⟩
theorem runF_succ (T : List I3) (arg : ByteArray) (reps : List R2) (n : Nat) (s : ST) : (∃ s', step T arg reps s = .inl s' ∧ runF T arg reps (n + 1) s = runF T arg reps n s') ∨ ∃ r, step T arg reps s = .inr r ∧ runF T arg reps (n + 1) s = r := by
  rw [runF]
  cases h : step T arg reps s with
  | inl s' => exact .inl ⟨s', rfl, rfl⟩
  | inr r => exact .inr ⟨r, rfl, rfl⟩
theorem steps_ge (T : List I3) (arg : ByteArray) (reps : List R2) (n : Nat) : ∀ s : ST, s.steps + n = 202 → s.steps ≤ 200 → (s.steps : Int) ≤ (runF T arg reps n s).steps ∧ ((runF T arg reps n s).over = false → 1 ≤ (runF T arg reps n s).name.size) := by
  induction n with
  | zero => intro s h1 h2; omega
  | succ n ih =>
    intro s h1 h2
    rcases runF_succ T arg reps n s with ⟨s', e, h⟩ | ⟨r, e, h⟩
    · rw [h]
      obtain ⟨h3, h4⟩ := step_inl e
      obtain ⟨h5, h6⟩ := ih s' (by omega) (by omega)
      exact ⟨by omega, h6⟩
    · rw [h]; exact step_inr e
/-- A run comes to something. -/
theorem fin_some (T : List I3) (arg : ByteArray) (reps : List R2) : (fin T arg reps).over = false → 1 ≤ (fin T arg reps).name.size := (steps_ge T arg reps 202 s0 rfl (by simp [s0])).2
theorem okR_take {reps : List R2} (h : okR reps = true) (i : Nat) : okR (reps.take i) = true := by
  unfold okR at h ⊢
  rw [List.all_eq_true] at h ⊢
  exact fun x hx => h x (List.mem_of_mem_take hx)
theorem take_get {reps : List R2} {i k : Nat} (hk : k < i) : (reps.take i).getD k r2z = reps.getD k r2z := by
  simp [List.getD, hk]
/-- A look with fewer replies: the same, or the run stops there. -/
theorem look_take {x : I3} {reps : List R2} {s : ST} {i : Nat} (hi : i ≤ reps.length) : look x (reps.take i) s = look x reps s ∨ (i ≤ s.looks ∧ ∃ r, look x (reps.take i) s = .inr r ∧ r.over = false) := by
  have hl : (reps.take i).length = i := by rw [List.length_take]; omega
  rcases Nat.lt_or_ge s.looks i with h | h
  · left
    unfold look
    rw [take_get h, hl]
    by_cases ga : nameOk s.hand.data.toList = false
    · rw [if_pos ga, if_pos ga]
    rw [if_neg ga, if_neg ga]
    by_cases gb : 14 ≤ s.looks
    · rw [if_pos gb, if_pos gb]
    rw [if_neg gb, if_neg gb, if_neg (by omega), if_neg (show ¬ reps.length ≤ s.looks by omega)]
  · unfold look
    rw [hl]
    by_cases ga : nameOk s.hand.data.toList = false
    · left; rw [if_pos ga, if_pos ga]
    rw [if_neg ga, if_neg ga]
    by_cases gb : 14 ≤ s.looks
    · left; rw [if_pos gb, if_pos gb]
    rw [if_neg gb, if_neg gb, if_pos h]
    exact .inr ⟨h, _, rfl, rfl⟩
theorem act_take {arg : ByteArray} {x : I3} {reps : List R2} {s : ST} {i : Nat} (hi : i ≤ reps.length) : act arg (reps.take i) x s = act arg reps x s ∨ ∃ r, act arg (reps.take i) x s = .inr r ∧ r.over = false := by
  have h := look_take (x := x) (s := s) hi
  unfold act
  by_cases h1 : x.op = 1
  · left; rw [if_pos h1, if_pos h1]
  rw [if_neg h1, if_neg h1]
  by_cases h2 : x.op = 2
  · left; rw [if_pos h2, if_pos h2]
  rw [if_neg h2, if_neg h2]
  by_cases h5 : x.op = 5
  · left; rw [if_pos h5, if_pos h5]
  rw [if_neg h5, if_neg h5]
  by_cases h6 : x.op = 6
  · left; rw [if_pos h6, if_pos h6]
  rw [if_neg h6, if_neg h6]
  by_cases h7 : x.op = 7
  · left; rw [if_pos h7, if_pos h7]
  rw [if_neg h7, if_neg h7]
  by_cases h8 : x.op = 8
  · left; rw [if_pos h8, if_pos h8]
  rw [if_neg h8, if_neg h8]
  by_cases h9 : x.op = 9
  · left; rw [if_pos h9, if_pos h9]
  rw [if_neg h9, if_neg h9]
  by_cases h10 : x.op = 10
  · left; rw [if_pos h10, if_pos h10]
  rw [if_neg h10, if_neg h10]
  by_cases h11 : x.op = 11
  · left; rw [if_pos h11, if_pos h11]
  rw [if_neg h11, if_neg h11]
  rcases h with h | ⟨_, r, h1, h2⟩
  · exact .inl h
  · exact .inr ⟨r, h1, h2⟩
theorem step_take {T : List I3} {arg : ByteArray} {reps : List R2} {s : ST} {i : Nat} (hi : i ≤ reps.length) : step T arg (reps.take i) s = step T arg reps s ∨ (s.pc < T.length ∧ s.steps < 200 ∧ ∃ r, step T arg (reps.take i) s = .inr r ∧ r.over = false) := by
  unfold step
  by_cases h1 : T.length ≤ s.pc
  · left; rw [if_pos h1, if_pos h1]
  rw [if_neg h1, if_neg h1]
  by_cases h2 : 200 ≤ s.steps
  · left; rw [if_pos h2, if_pos h2]
  rw [if_neg h2, if_neg h2]
  rcases act_take (arg := arg) (x := T.getD s.pc i3z) (s := s) hi with h | ⟨r, h3, h4⟩
  · exact .inl h
  · exact .inr ⟨by omega, by omega, r, h3, h4⟩
/-- A run with a beginning of its replies. -/
structure Pre (x t : TN) : Prop where
  same : x.over = true → x = t
  name : x.over = false → 1 ≤ x.name.size
  steps : x.steps ≤ t.steps
theorem runF_take {T : List I3} {arg : ByteArray} {reps : List R2} {i : Nat} (hi : i ≤ reps.length) (n : Nat) : ∀ s : ST, s.steps + n = 202 → s.steps ≤ 200 → Pre (runF T arg (reps.take i) n s) (runF T arg reps n s) := by
  induction n with
  | zero => intro s h1 h2; omega
  | succ n ih =>
    intro s h1 h2
    have hg := steps_ge T arg (reps.take i) (n + 1) s h1 h2
    rcases step_take (T := T) (arg := arg) (s := s) hi with h | ⟨hp, hs, r, hr, ho⟩
    · rcases runF_succ T arg (reps.take i) n s with ⟨s', e, hx⟩ | ⟨r, e, hx⟩
      · rcases runF_succ T arg reps n s with ⟨s2, e2, hy⟩ | ⟨r2, e2, hy⟩
        · rw [h, e2] at e
          injection e with e
          subst e
          rw [hx, hy]
          obtain ⟨h3, h4⟩ := step_inl e2
          exact ih s2 (by omega) (by omega)
        · rw [h, e2] at e; cases e
      · rcases runF_succ T arg reps n s with ⟨s2, e2, hy⟩ | ⟨r2, e2, hy⟩
        · rw [h, e2] at e; cases e
        · rw [h, e2] at e
          injection e with e
          subst e
          rw [hx, hy]
          exact ⟨fun _ => rfl, (step_inr e2).2, Int.le_refl _⟩
    · rcases runF_succ T arg (reps.take i) n s with ⟨s', e, hx⟩ | ⟨r', e, hx⟩
      · rw [hr] at e; cases e
      · rw [hr] at e
        injection e with e
        subst e
        have hst : r.steps = (s.steps : Int) + 1 := by
          rw [step_act hp hs] at hr
          exact (act_inr hr).1
        rw [hx]
        refine ⟨fun h => absurd h (by rw [ho]; simp), fun h => (step_inr hr).2 h, ?_⟩
        rw [hst]
        rcases runF_succ T arg reps n s with ⟨s2, e2, hy⟩ | ⟨r2, e2, hy⟩
        · rw [hy]
          obtain ⟨h3, h4⟩ := step_inl e2
          have := (steps_ge T arg reps n s2 (by omega) (by omega)).1
          omega
        · rw [hy]
          rw [step_act hp hs] at e2
          rw [(act_inr e2).1]; exact Int.le_refl _
theorem fin_take {T : List I3} {arg : ByteArray} {reps : List R2} {i : Nat} (hi : i ≤ reps.length) : Pre (fin T arg (reps.take i)) (fin T arg reps) := runF_take hi 202 s0 rfl (by simp [s0])
/-- Where a turn says nothing, tool, arg or replies are not valid. -/
theorem next_bad {T : List I3} {arg : ByteArray} {reps : List R2} (h1 : (nextT T arg reps).over = false) (h2 : (nextT T arg reps).name.size = 0) : okT T = false ∨ 300 < arg.size ∨ 1 ≤ reps.length := by
  unfold nextT at h1 h2
  split at h1
  · rename_i hc
    rw [if_pos hc] at h2
    have := fin_some T arg reps h1
    omega
  · rename_i hc
    by_cases a1 : okT T = true
    · by_cases a2 : arg.size ≤ 300
      · refine .inr (.inr ?_)
        rcases Nat.eq_zero_or_pos reps.length with h0 | h0
        · exfalso
          apply hc
          refine ⟨a1, a2, by omega, ?_⟩
          have : reps = [] := List.length_eq_zero_iff.1 h0
          rw [this]; rfl
        · exact h0
      · exact .inr (.inl (by omega))
    · exact .inl (by simpa using a1)
theorem next_take {T : List I3} {arg : ByteArray} {reps : List R2} {i : Nat} (hi : i ≤ reps.length) (h : ¬ ((nextT T arg reps).over = false ∧ (nextT T arg reps).name.size = 0)) : Pre (nextT T arg (reps.take i)) (nextT T arg reps) := by
  by_cases hc : okT T = true ∧ arg.size ≤ 300 ∧ reps.length ≤ 14 ∧ okR reps = true
  · obtain ⟨a1, a2, a3, a4⟩ := hc
    rw [next_yesJ a1 a2 a3 a4, next_yesJ a1 a2 (by rw [List.length_take]; omega) (okR_take a4 i)]
    exact fin_take hi
  · exfalso
    apply h
    unfold nextT
    rw [if_neg hc]
    exact ⟨rfl, rfl⟩
end Go.Proofs.YtignmnbgedmfbaaDoor
namespace Go.Proofs.YtignmnbgedmfbaaDoor
open Go.RowKit
theorem res_take {w : World} {a : Option Addr} {rs : List R2} (h : ResAt w a rs) (i : Nat) : ResAt w a (rs.take i) := by
  rcases h with h | ⟨b, off, h1, h2, h3⟩
  · left; rw [h]; simp
  · refine .inr ⟨b, off, h1, h2, fun j hj => ?_⟩
    rw [List.length_take] at hj
    have e : (rs.take i).getD j r2z = rs.getD j r2z := take_get (by omega)
    rw [e]
    exact h3 j (by omega)
theorem three_take {T : List I3} {arg : ByteArray} {reps : List R2} (h : Three T arg reps) (i : Nat) : Three T arg (reps.take i) := by
  refine ⟨h.tl, h.ts, h.al, by rw [List.length_take]; have := h.rl; omega, fun j => ?_⟩
  by_cases hj : j < i
  · rw [take_get hj]; exact h.rs j
  · have e : (reps.take i).getD j r2z = r2z := by simp [List.getD, List.getElem?_eq_none (show (reps.take i).length ≤ j by rw [List.length_take]; omega)]
    rw [e]; exact Nat.zero_le _
theorem c17j {o : Bool} {c : Int} {t : ByteArray} {h : Bool} {n : ByteArray} {k : Int} (a : Option Addr) (cap : Nat) (T : List I3) (arg : ByteArray) (a2 : Option Addr) (cap2 : Nat) (reps : List R2) (j : Nat) (w : World) (hj : j ≤ reps.length) (h3 : Three T arg (reps.take j)) (hat : InsAt w a T) (hat2 : ResAt w a2 (reps.take j)) (hsh : ShapesAt w) (hmx : MaxAt w) (e : nextT T arg (reps.take j) = ⟨o, c, t, h, n, k⟩) :
    Calls Tryd.prog 17 #[.agg #[.slice a T.length cap], .string arg, .slice a2 j cap2] w fun e w' => e = .returned (.agg #[.bool o, .int .i64 c, .string t, .bool h, .string n, .int .i64 k]) ∧ Below w.heap.size w w' := by
  have hl : (reps.take j).length = j := by rw [List.length_take]; omega
  have := c17t a cap T arg a2 cap2 (reps.take j) w h3 hat hat2 hsh hmx e
  rw [hl] at this
  exact this
theorem c18j {o : Bool} {c : Int} {t : ByteArray} {h : Bool} {n : ByteArray} {k : Int} (a : Option Addr) (cap : Nat) (T : List I3) (arg : ByteArray) (a2 : Option Addr) (cap2 : Nat) (reps : List R2) (j : Nat) (w : World) (hj : j ≤ reps.length) (h3 : Three T arg (reps.take j)) (hat : InsAt w a T) (hat2 : ResAt w a2 (reps.take j)) (e : nextT T arg (reps.take j) = ⟨o, c, t, h, n, k⟩) :
    Calls Tryd.prog 18 #[.agg #[.slice a T.length cap], .string arg, .slice a2 j cap2] w fun e w' => e = .returned (.agg #[.bool o, .int .i64 c, .string t, .bool h, .string n, .int .i64 k]) ∧ Below w.heap.size w w' := by
  have hl : (reps.take j).length = j := by rw [List.length_take]; omega
  have := c18t a cap T arg a2 cap2 (reps.take j) w h3 hat hat2 e
  rw [hl] at this
  exact this
theorem z44 {u w4 : World} (h : Below (u.alloc (.cells #[.bool false, .int .i64 0, .string ⟨#[]⟩, .bool false, .string ⟨#[]⟩, .int .i64 0] 44)).drew.heap.size (u.alloc (.cells #[.bool false, .int .i64 0, .string ⟨#[]⟩, .bool false, .string ⟨#[]⟩, .int .i64 0] 44)).drew w4) :
    (w4.cell? ⟨u.heap.size, 0, none⟩ = some (.bool false) ∧ w4.cell? ⟨u.heap.size, 1, none⟩ = some (.int .i64 0) ∧ w4.cell? ⟨u.heap.size, 2, none⟩ = some (.string ⟨#[]⟩) ∧ w4.cell? ⟨u.heap.size, 3, none⟩ = some (.bool false) ∧ w4.cell? ⟨u.heap.size, 4, none⟩ = some (.string ⟨#[]⟩) ∧ w4.cell? ⟨u.heap.size, 5, none⟩ = some (.int .i64 0)) ∧ (w4.frozen? ⟨u.heap.size, 0, none⟩ = false ∧ w4.frozen? ⟨u.heap.size, 1, none⟩ = false ∧ w4.frozen? ⟨u.heap.size, 2, none⟩ = false ∧ w4.frozen? ⟨u.heap.size, 3, none⟩ = false ∧ w4.frozen? ⟨u.heap.size, 4, none⟩ = false ∧ w4.frozen? ⟨u.heap.size, 5, none⟩ = false) := by
  have e : ∀ j, w4.cell? ⟨u.heap.size, j, none⟩ = (u.alloc (.cells #[.bool false, .int .i64 0, .string ⟨#[]⟩, .bool false, .string ⟨#[]⟩, .int .i64 0] 44)).cell? ⟨u.heap.size, j, none⟩ := fun j => h.cell (by simp)
  have f : ∀ j, w4.frozen? ⟨u.heap.size, j, none⟩ = (u.alloc (.cells #[.bool false, .int .i64 0, .string ⟨#[]⟩, .bool false, .string ⟨#[]⟩, .int .i64 0] 44)).frozen? ⟨u.heap.size, j, none⟩ := fun j => h.frozen (by simp)
  rw [e, e, e, e, e, e, f, f, f, f, f, f]
  simp
theorem size_le2 (u : World) (o : Obj) : u.heap.size ≤ (u.alloc o).drew.heap.size := by
  show u.heap.size ≤ (u.alloc o).heap.size
  simp
/-- A turn's block at Z, in a world that only made new memory since wr. -/
def TurnAt (wr V : World) (Z : Nat) (o : Bool) (c : Int) (t : ByteArray) (h : Bool) (n : ByteArray) (k : Int) : Prop :=
  Below wr.heap.size wr V ∧ Z < V.heap.size ∧ V.cell? ⟨Z, 0, none⟩ = some (.bool o) ∧ V.cell? ⟨Z, 1, none⟩ = some (.int .i64 c) ∧ V.cell? ⟨Z, 2, none⟩ = some (.string t) ∧ V.cell? ⟨Z, 3, none⟩ = some (.bool h) ∧ V.cell? ⟨Z, 4, none⟩ = some (.string n) ∧ V.cell? ⟨Z, 5, none⟩ = some (.int .i64 k)
theorem turn_new {wr w4 : World} (o : Bool) (c : Int) (t : ByteArray) (h : Bool) (n : ByteArray) (k : Int) (hb : Below wr.heap.size wr w4) : TurnAt wr (w4.alloc (.cells #[.bool o, .int .i64 c, .string t, .bool h, .string n, .int .i64 k] 44)) w4.heap.size o c t h n k := by
  refine ⟨hb.alloc hb.size _, by simp, ?_⟩
  simp
theorem turn_old {wr w4 : World} (o : Bool) (c : Int) (t : ByteArray) (h : Bool) (n : ByteArray) (k : Int) (hb : Below (wr.alloc (.cells #[.bool false, .int .i64 0, .string ⟨#[]⟩, .bool false, .string ⟨#[]⟩, .int .i64 0] 44)).drew.heap.size (wr.alloc (.cells #[.bool false, .int .i64 0, .string ⟨#[]⟩, .bool false, .string ⟨#[]⟩, .int .i64 0] 44)).drew w4) :
    TurnAt wr ((((((w4.setCell ⟨wr.heap.size, 0, none⟩ (.bool o)).setCell ⟨wr.heap.size, 1, none⟩ (.int .i64 c)).setCell ⟨wr.heap.size, 2, none⟩ (.string t)).setCell ⟨wr.heap.size, 3, none⟩ (.bool h)).setCell ⟨wr.heap.size, 4, none⟩ (.string n)).setCell ⟨wr.heap.size, 5, none⟩ (.int .i64 k)) wr.heap.size o c t h n k := by
  have hA : Below wr.heap.size wr (wr.alloc (.cells #[.bool false, .int .i64 0, .string ⟨#[]⟩, .bool false, .string ⟨#[]⟩, .int .i64 0] 44)).drew := ((Below.refl _ _).alloc (Nat.le_refl _) _).drew
  have hz : wr.heap.size < (wr.alloc (.cells #[.bool false, .int .i64 0, .string ⟨#[]⟩, .bool false, .string ⟨#[]⟩, .int .i64 0] 44)).drew.heap.size := by
    show wr.heap.size < (wr.alloc _).heap.size
    simp
  have hblk : w4.heap[wr.heap.size]? = some (.cells z6 44 (0, 0)) := by
    rw [hb.block _ hz]
    exact alloc_new rfl _
  have hb4 : Below wr.heap.size wr w4 := hA.trans (hb.mono (Nat.le_of_lt hz))
  obtain ⟨s0, s1, s2, s3, s4, s5⟩ := set6 hblk (.bool o) (.int .i64 c) (.string t) (.bool h) (.string n) (.int .i64 k)
  have hZ : wr.heap.size < w4.heap.size := Nat.lt_of_lt_of_le hz hb.size
  have ne : ∀ {i j : Nat}, i ≠ j → (⟨wr.heap.size, i, none⟩ : Addr) ≠ ⟨wr.heap.size, j, none⟩ := fun h e => by injection e with _ e; exact h e
  refine ⟨hb4.trans (set6_below (Nat.le_refl _) _ _ _ _ _ _), by simpa using hZ, ?_, ?_, ?_, ?_, ?_, s5⟩
  · rw [World.cell?_setCell_other _ _ _ _ (ne (by omega)), World.cell?_setCell_other _ _ _ _ (ne (by omega)), World.cell?_setCell_other _ _ _ _ (ne (by omega)), World.cell?_setCell_other _ _ _ _ (ne (by omega)), World.cell?_setCell_other _ _ _ _ (ne (by omega))]; exact s0
  · rw [World.cell?_setCell_other _ _ _ _ (ne (by omega)), World.cell?_setCell_other _ _ _ _ (ne (by omega)), World.cell?_setCell_other _ _ _ _ (ne (by omega)), World.cell?_setCell_other _ _ _ _ (ne (by omega))]; exact s1
  · rw [World.cell?_setCell_other _ _ _ _ (ne (by omega)), World.cell?_setCell_other _ _ _ _ (ne (by omega)), World.cell?_setCell_other _ _ _ _ (ne (by omega))]; exact s2
  · rw [World.cell?_setCell_other _ _ _ _ (ne (by omega)), World.cell?_setCell_other _ _ _ _ (ne (by omega))]; exact s3
  · rw [World.cell?_setCell_other _ _ _ _ (ne (by omega))]; exact s4
theorem pre_same {xc c : Int} {xt t : ByteArray} {xh hh : Bool} {xn n : ByteArray} {xk k : Int} {o : Bool} (h : Pre ⟨true, xc, xt, xh, xn, xk⟩ ⟨o, c, t, hh, n, k⟩) : o = true ∧ xc = c ∧ xt = t ∧ xh = hh ∧ xn = n ∧ xk = k := by
  have e := h.same rfl
  injection e with e0 e1 e2 e3 e4 e5
  exact ⟨e0.symm, e1, e2, e3, e4, e5⟩
theorem form_bad {T : List I3} (h : okT T = false) : formL T = [] := by
  unfold formL
  rw [if_neg (by rw [h]; simp)]
set_option maxHeartbeats 8000000 in
set_option maxRecDepth 100000 in
theorem c5 (a : Option Addr) (L cap : Nat) (w : World) (hL : L ≤ 9223372036854775807) (hcap : L ≤ cap) (h : BytesAt w a L) (hsh : ShapesAt w) (hmx : MaxAt w) :
    Calls Tryd.prog 5 #[.slice a L cap] w fun e w' => e = .returned (.bool true) ∧ Below w.heap.size w w' := by
  have HSH : Hid (ShapesAt w) := hsh
  have HMX : Hid (MaxAt w) := hmx
  have HBY : Hid (BytesAt w a L) := h
  clear h hsh hmx
  by_cases hbig : 1048576 < L
  · go_enter Tryd.func5, Tryd.ntmps5
    go_wp2
    go_ret
    exact ⟨rfl, Below.refl _ _⟩
  go_enter Tryd.func5, Tryd.ntmps5
  go_wp2_with fail
  refine (c16 a L cap w (by omega) hcap HBY.out).mono ?_
  rintro e w1 ⟨⟨T, aT, cT, arg, rs, aR, cR, rfl, hT, hR, hTl, hTs, hal, hrl, hrs, hcR⟩, hb1⟩
  have H3 : Hid (Three T arg rs) := ⟨by omega, fun i => Nat.le_trans (hTs i) (by omega), by omega, by omega, fun i => Nat.le_trans (hrs i) (by omega)⟩
  have hA1 : Below w1.heap.size w1 (w1.alloc (.cells #[.slice aT T.length cT] 29)) := (Below.refl _ _).alloc (Nat.le_refl _) _
  have HT1 : Hid (InsAt (w1.alloc (.cells #[.slice aT T.length cT] 29)) aT T) := ins_below hT hA1
  have HR1 : Hid (ResAt (w1.alloc (.cells #[.slice aT T.length cT] 29)) aR rs) := res_below hR hA1
  have HB1 : Hid (Below w.heap.size w (w1.alloc (.cells #[.slice aT T.length cT] 29))) := hb1.alloc hb1.size _
  have hz1 : w.heap.size ≤ w1.heap.size := hb1.size
  have hX1 : (w1.alloc (.cells #[.slice aT T.length cT] 29)).cell? ⟨w1.heap.size, 0, none⟩ = some (.slice aT T.length cT) := by simp
  have hXl : w1.heap.size < (w1.alloc (.cells #[.slice aT T.length cT] 29)).heap.size := by simp
  obtain ⟨o, c, t, hh, n, k, HN⟩ : ∃ o c t hh n k, Hid (nextT T arg rs = ⟨o, c, t, hh, n, k⟩) := ⟨_, _, _, _, _, _, rfl⟩
  clear hT hR hb1 hTs hrs hA1
  go_wp2_with fail
  generalize (w1.alloc (.cells #[.slice aT T.length cT] 29)) = W1 at *
  generalize w1.heap.size = X at *
  refine (c17t aT cT T arg aR cR rs W1 H3.out HT1.out HR1.out (shapes_below HSH.out HB1.out) (max_below HMX.out HB1.out) HN.out).mono ?_
  rintro e w2 ⟨rfl, hb2⟩
  have hA2 : Below w2.heap.size w2 (w2.alloc (tcells o c t hh n k)) := (Below.refl _ _).alloc (Nat.le_refl _) _
  have hT2 : Below (w2.heap.size + 1) (w2.alloc (tcells o c t hh n k)) (w2.alloc (tcells o c t hh n k)) := Below.refl _ _
  have HB12 : Hid (Below W1.heap.size W1 (w2.alloc (tcells o c t hh n k))) := hb2.trans (hA2.mono hb2.size)
  obtain ⟨t0, t1, t2, t3, t4, t5⟩ := turn_cells hT2
  have hz2 : W1.heap.size ≤ w2.heap.size := hb2.size
  have x2 : (w2.alloc (tcells o c t hh n k)).cell? ⟨X, 0, none⟩ = some (.slice aT T.length cT) := (HB12.out.cell (p := ⟨X, 0, none⟩) hXl).trans hX1
  have hXz : X < (w2.alloc (tcells o c t hh n k)).heap.size := by simp; omega
  have hWz : w2.heap.size < (w2.alloc (tcells o c t hh n k)).heap.size := by simp
  have HT2 : Hid (InsAt (w2.alloc (tcells o c t hh n k)) aT T) := ins_below HT1.out HB12.out
  have HR2 : Hid (ResAt (w2.alloc (tcells o c t hh n k)) aR rs) := res_below HR1.out HB12.out
  have HB2 : Hid (Below w.heap.size w (w2.alloc (tcells o c t hh n k))) := HB1.out.trans (HB12.out.mono HB1.out.size)
  clear hb2 hA2 hT2 HB12 HT1 HR1 HB1 hX1
  go_wp2_with fail
  change Code.wp _ _ _ _ (w2.alloc (tcells o c t hh n k))
  generalize (w2.alloc (tcells o c t hh n k)) = W2 at *
  generalize w2.heap.size = Y at *
  go_region_held3 (fun u => u.cell? ⟨X, 0, none⟩ = some (.slice aT T.length cT) ∧ u.cell? ⟨Y, 0, none⟩ = some (.bool o) ∧ u.cell? ⟨Y, 1, none⟩ = some (.int .i64 c) ∧ u.cell? ⟨Y, 2, none⟩ = some (.string t) ∧ u.cell? ⟨Y, 3, none⟩ = some (.bool hh) ∧ u.cell? ⟨Y, 4, none⟩ = some (.string n) ∧ u.cell? ⟨Y, 5, none⟩ = some (.int .i64 k)) (go_keep) (first | (go_at_call 18; refine (c18t aT cT T arg aR cR rs _ H3.out (ins_below HT2.out ((Below.refl _ _).drew)) (res_below HR2.out ((Below.refl _ _).drew)) HN.out).mono ?_; rintro e w3 ⟨rfl, hb3⟩; have HB3 : Hid (Below W2.heap.size W2 w3) := (Below.refl _ _).drew.trans hb3; have q0 := (HB3.out.cell (p := ⟨X, 0, none⟩) hXz).trans x2; have q1 := (HB3.out.cell (p := ⟨Y, 0, none⟩) hWz).trans t0; have q2 := (HB3.out.cell (p := ⟨Y, 1, none⟩) hWz).trans t1; have q3 := (HB3.out.cell (p := ⟨Y, 2, none⟩) hWz).trans t2; have q4 := (HB3.out.cell (p := ⟨Y, 3, none⟩) hWz).trans t3; have q5 := (HB3.out.cell (p := ⟨Y, 4, none⟩) hWz).trans t4; have q6 := (HB3.out.cell (p := ⟨Y, 5, none⟩) hWz).trans t5))
  all_goals
    have HTW : Hid (InsAt w3 aT T) := ins_below HT2.out HB3.out
    have HRW : Hid (ResAt w3 aR rs) := res_below HR2.out HB3.out
    have HBW : Hid (Below w.heap.size w w3) := HB2.out.trans (HB3.out.mono HB2.out.size)
    have hz3 : W2.heap.size ≤ w3.heap.size := HB3.out.size
    have hX3 : X < w3.heap.size := by omega
    have hY3 : Y < w3.heap.size := by omega
    clear HT2 HR2 HB2 hb3 HB3 x2 t0 t1 t2 t3 t4 t5
    cases o
    · by_cases hn : n.size = 0
      · have hne : n.toList.isEmpty = true := by
          rw [ByteArray.toList_eq]
          have : n.data.toList = [] := List.length_eq_zero_iff.1 (by simpa using hn)
          rw [this]; rfl
        have HBAD : Hid (okT T = false ∨ 300 < arg.size ∨ 1 ≤ rs.length) := next_bad (by rw [HN.out]) (by rw [HN.out]; exact hn)
        by_cases hr0 : 1 ≤ rs.length
        · have hr1 : (0 : Int) < (rs.length : Int) := by omega
          have hr2 : 0 < rs.length := by omega
          have hr3 : decide ((0 : Int) < (rs.length : Int)) = true := decide_eq_true hr1
          go_wp2_with fail
          go_ret
          exact ⟨rfl, HBW.out⟩
        · have hr4 : ¬ 0 < rs.length := by omega
          have hr5 : decide (0 < rs.length) = false := decide_eq_false hr4
          have hr1 : ¬ (0 : Int) < (rs.length : Int) := by omega
          have hr3 : decide ((0 : Int) < (rs.length : Int)) = false := decide_eq_false hr1
          go_wp2_with fail
          refine (c10 aT cT T w3 (fun i => Nat.le_trans (H3.out.ts i) (by omega)) (by omega) HTW.out (shapes_below HSH.out HBW.out)).mono ?_
          rintro e w4 ⟨rfl, hb4⟩
          have HB4 : Hid (Below w.heap.size w w4) := HBW.out.trans (hb4.mono HBW.out.size)
          clear hb4
          by_cases hf : formL T = []
          · have hf' : (ofL (formL T)).toList.isEmpty = true := by rw [ByteArray.toList_eq, hf]; rfl
            clear hf
            generalize ofL (formL T) = F at *
            go_wp2
            go_ret
            exact ⟨rfl, HB4.out⟩
          · have hf' : (ofL (formL T)).toList.isEmpty = false := by
              rw [ByteArray.toList_eq]
              cases hq : formL T with
              | nil => exact absurd hq hf
              | cons x l => rfl
            have h300 : 300 < arg.size := by
              rcases HBAD.out with h | h | h
              · exact absurd (form_bad h) hf
              · exact h
              · omega
            have h300d : decide ((300 : Int) < (arg.size : Int)) = true := decide_eq_true (by omega)
            clear hf
            generalize ofL (formL T) = F at *
            go_wp2
            go_ret
            exact ⟨rfl, HB4.out⟩
      · have hne : n.toList.isEmpty = false := by
          rw [ByteArray.toList_eq]; exact str_isEmpty n (by omega)
        have HNB : Hid (¬ ((nextT T arg rs).over = false ∧ (nextT T arg rs).name.size = 0)) := by
          rw [HN.out]; exact fun h => hn h.2
        go_wp2_with fail
        go_loopw [7] (fun i wr => ∃ j : Nat, j ≤ rs.length ∧ i = .int .i64 j ∧ Hid (Below w3.heap.size w3 wr)) (fun i _ => rs.length - (intOf i).toNat)
        case atStart => exact ⟨0, Nat.zero_le _, rfl, Below.refl _ _⟩
        case round =>
          obtain ⟨j, hj, rfl, hbr⟩ := hrel
          have HBR : Hid (Below w.heap.size w wr) := HBW.out.trans (hbr.out.mono HBW.out.size)
          have hzr : w3.heap.size ≤ wr.heap.size := hbr.out.size
          by_cases hlt : j < rs.length
          · have HT3 : Hid (InsAt wr aT T) := ins_below HTW.out hbr.out
            have HR3 : Hid (ResAt wr aR (rs.take j)) := res_take (res_below HRW.out hbr.out) j
            have hjl : (rs.take j).length = j := by rw [List.length_take]; omega
            have e0 := (hbr.out.cell (p := ⟨X, 0, none⟩) hX3).trans q0
            have e1 := (hbr.out.cell (p := ⟨Y, 0, none⟩) hY3).trans q1
            have e2 := (hbr.out.cell (p := ⟨Y, 1, none⟩) hY3).trans q2
            have e3 := (hbr.out.cell (p := ⟨Y, 2, none⟩) hY3).trans q3
            have e4 := (hbr.out.cell (p := ⟨Y, 3, none⟩) hY3).trans q4
            have e5 := (hbr.out.cell (p := ⟨Y, 4, none⟩) hY3).trans q5
            have e6 := (hbr.out.cell (p := ⟨Y, 5, none⟩) hY3).trans q6
            obtain ⟨xo, xc, xt, xh, xn, xk, HX⟩ : ∃ o c t h n k, Hid (nextT T arg (rs.take j) = ⟨o, c, t, h, n, k⟩) := ⟨_, _, _, _, _, _, rfl⟩
            have HPRE : Hid (Pre ⟨xo, xc, xt, xh, xn, xk⟩ ⟨false, c, t, hh, n, k⟩) := by rw [Hid, ← HX.out, ← HN.out]; exact next_take (by omega) HNB.out
            have hjc : j ≤ cR := by omega
            have hXr : X < wr.heap.size := by omega
            have hYr : Y < wr.heap.size := by omega
            go_wp2_with fail
            have hXn1 : ¬ wr.heap.size = X := by omega
            have hXn2 : ¬ X = wr.heap.size := by omega
            have hYn1 : ¬ wr.heap.size = Y := by omega
            have hYn2 : ¬ Y = wr.heap.size := by omega
            have HAB : Hid (Below wr.heap.size wr (wr.alloc (.cells #[.bool false, .int .i64 0, .string ⟨#[]⟩, .bool false, .string ⟨#[]⟩, .int .i64 0] 44)).drew) := ((Below.refl _ _).alloc (Nat.le_refl _) _).drew
            have HBB : Hid (Below w.heap.size w (wr.alloc (.cells #[.bool false, .int .i64 0, .string ⟨#[]⟩, .bool false, .string ⟨#[]⟩, .int .i64 0] 44)).drew) := (HBR.out.alloc HBR.out.size _).drew
            go_region_held3 (fun u => u.cell? ⟨X, 0, none⟩ = some (.slice aT T.length cT)) (go_keep) (first | (go_at_call 17; refine (c17j aT cT T arg aR cR rs j wr.drew hj (three_take H3.out j) (ins_below HT3.out ((Below.refl _ _).drew)) (res_below HR3.out ((Below.refl _ _).drew)) (shapes_below HSH.out (HBR.out.drew)) (max_below HMX.out (HBR.out.drew)) HX.out).mono ?_; rintro e w4 ⟨rfl, hb4⟩; have HB4 : Hid (Below wr.heap.size wr w4) := ((Below.refl _ _).drew).trans hb4; have p0 := (HB4.out.cell (p := ⟨X, 0, none⟩) hXr).trans e0; have hX4 : X < w4.heap.size := (Nat.lt_of_lt_of_le hXr HB4.out.size)) | (go_at_call 17; refine (c17j aT cT T arg aR cR rs j (wr.alloc (.cells #[.bool false, .int .i64 0, .string ⟨#[]⟩, .bool false, .string ⟨#[]⟩, .int .i64 0] 44)).drew hj (three_take H3.out j) (ins_below HT3.out HAB.out) (res_below HR3.out HAB.out) (shapes_below HSH.out HBB.out) (max_below HMX.out HBB.out) HX.out).mono ?_; rintro e w4 ⟨rfl, hb4⟩; have HB4 : Hid (Below wr.heap.size wr w4) := HAB.out.trans (hb4.mono (size_le2 _ _)); have p0 := (HB4.out.cell (p := ⟨X, 0, none⟩) hXr).trans e0; have hX4 : X < w4.heap.size := (Nat.lt_of_lt_of_le hXr HB4.out.size); obtain ⟨⟨z0, z1, z2, z3, z4, z5⟩, zf0, zf1, zf2, zf3, zf4, zf5⟩ := z44 hb4))
            · go_wp2_with fail
              have hTA : TurnAt wr (w4.alloc (.cells #[.bool xo, .int .i64 xc, .string xt, .bool xh, .string xn, .int .i64 xk] 44)) w4.heap.size xo xc xt xh xn xk := turn_new xo xc xt xh xn xk HB4.out
              obtain ⟨hBV, hZ, v0, v1, v2, v3, v4, v5⟩ := hTA
              have HBV : Hid (Below wr.heap.size wr (w4.alloc (.cells #[.bool xo, .int .i64 xc, .string xt, .bool xh, .string xn, .int .i64 xk] 44))) := hBV
              clear hBV
              generalize (w4.alloc (.cells #[.bool xo, .int .i64 xc, .string xt, .bool xh, .string xn, .int .i64 xk] 44)) = V at *
              generalize hZe : w4.heap.size = Z at v0 v1 v2 v3 v4 v5 hZ ⊢
              clear hZe
              have r0 := (HBV.out.cell (p := ⟨X, 0, none⟩) hXr).trans e0
              have r1 := (HBV.out.cell (p := ⟨Y, 0, none⟩) hYr).trans e1
              have r2 := (HBV.out.cell (p := ⟨Y, 1, none⟩) hYr).trans e2
              have r3 := (HBV.out.cell (p := ⟨Y, 2, none⟩) hYr).trans e3
              have r4 := (HBV.out.cell (p := ⟨Y, 3, none⟩) hYr).trans e4
              have r5 := (HBV.out.cell (p := ⟨Y, 4, none⟩) hYr).trans e5
              have r6 := (HBV.out.cell (p := ⟨Y, 5, none⟩) hYr).trans e6
              have hXV : X < V.heap.size := Nat.lt_of_lt_of_le hXr HBV.out.size
              have hYV : Y < V.heap.size := Nat.lt_of_lt_of_le hYr HBV.out.size
              have HTV : Hid (InsAt V.drew aT T) := ins_below (ins_below HT3.out HBV.out) ((Below.refl _ _).drew)
              have HRV : Hid (ResAt V.drew aR (rs.take j)) := res_below (res_below HR3.out HBV.out) ((Below.refl _ _).drew)
              clear HB4
              cases xo
              · have hk0 : xk ≤ k := HPRE.out.steps
                have hk1 : decide (k < xk) = false := decide_eq_false (by omega)
                have hn1 : 1 ≤ xn.size := HPRE.out.name rfl
                have hne1 : xn.toList.isEmpty = false := by rw [ByteArray.toList_eq]; exact str_isEmpty xn hn1
                refine wp_region_held_drew (S := (fun u => u.cell? ⟨X, 0, none⟩ = some (.slice aT T.length cT) ∧ u.cell? ⟨Y, 0, none⟩ = some (.bool false) ∧ u.cell? ⟨Y, 1, none⟩ = some (.int .i64 c) ∧ u.cell? ⟨Y, 2, none⟩ = some (.string t) ∧ u.cell? ⟨Y, 3, none⟩ = some (.bool hh) ∧ u.cell? ⟨Y, 4, none⟩ = some (.string n) ∧ u.cell? ⟨Y, 5, none⟩ = some (.int .i64 k) ∧ u.cell? ⟨Z, 0, none⟩ = some (.bool false) ∧ u.cell? ⟨Z, 1, none⟩ = some (.int .i64 xc) ∧ u.cell? ⟨Z, 2, none⟩ = some (.string xt) ∧ u.cell? ⟨Z, 3, none⟩ = some (.bool xh) ∧ u.cell? ⟨Z, 4, none⟩ = some (.string xn) ∧ u.cell? ⟨Z, 5, none⟩ = some (.int .i64 xk))) (by kernel_rfl) ?_ (fun hHeld => ?_)
                · ((try dsimp only); go_keep)
                refine wpAnyH_take (i := 0) (oi := { dst := some 61, op := Op.load 44 (Operand.tmp 8), type := 44, pos := "laws.go:627", after := #[], guard := none }) (v := ?_) rfl (by kernel_rfl) (by kernel_rfl) (by kernel_rfl) (fun _ _ _ h => h) (Or.inl ⟨by rfl, ?_⟩) (by assumption) ?_
                rotate_left
                · intro wq hSw
                  (try dsimp only at hSw)
                  go_simp
                  try with_reducible rfl
                try simp only [Act.put, List.setIfInBounds_toArray, List.set_cons_zero, List.set_cons_succ]
                refine wpAnyH_take (i := 1) (oi := { dst := some 62, op := Op.load 29 (Operand.tmp 3), type := 29, pos := "laws.go:627", after := #[], guard := none }) (v := ?_) rfl (by kernel_rfl) (by kernel_rfl) (by kernel_rfl) (fun _ _ _ h => h) (Or.inl ⟨by rfl, ?_⟩) (by assumption) ?_
                rotate_left
                · intro wq hSw
                  (try dsimp only at hSw)
                  go_simp
                  try with_reducible rfl
                try simp only [Act.put, List.setIfInBounds_toArray, List.set_cons_zero, List.set_cons_succ]
                refine wpAnyH_take (i := 2) (oi := { dst := some 63, op := Op.move (Operand.tmp 4), type := 9, pos := "laws.go:627", after := #[], guard := none }) (v := ?_) rfl (by kernel_rfl) (by kernel_rfl) (by kernel_rfl) (fun _ _ _ h => h) (Or.inl ⟨by rfl, ?_⟩) (by assumption) ?_
                rotate_left
                · intro wq hSw
                  (try dsimp only at hSw)
                  go_simp
                  try with_reducible rfl
                try simp only [Act.put, List.setIfInBounds_toArray, List.set_cons_zero, List.set_cons_succ]
                refine wpAnyH_take (i := 3) (oi := { dst := some 64, op := Op.move (Operand.tmp 5), type := 38, pos := "laws.go:627", after := #[], guard := none }) (v := ?_) rfl (by kernel_rfl) (by kernel_rfl) (by kernel_rfl) (fun _ _ _ h => h) (Or.inl ⟨by rfl, ?_⟩) (by assumption) ?_
                rotate_left
                · intro wq hSw
                  (try dsimp only at hSw)
                  go_simp
                  try with_reducible rfl
                try simp only [Act.put, List.setIfInBounds_toArray, List.set_cons_zero, List.set_cons_succ]
                refine wpAnyH_take (i := 4) (oi := { dst := some 65, op := Op.move (Operand.tmp 7), type := 3, pos := "laws.go:627", after := #[], guard := none }) (v := ?_) rfl (by kernel_rfl) (by kernel_rfl) (by kernel_rfl) (fun _ _ _ h => h) (Or.inl ⟨by rfl, ?_⟩) (by assumption) ?_
                rotate_left
                · intro wq hSw
                  (try dsimp only at hSw)
                  go_simp
                  try with_reducible rfl
                try simp only [Act.put, List.setIfInBounds_toArray, List.set_cons_zero, List.set_cons_succ]
                refine wpAnyH_take (i := 5) (oi := { dst := some 66, op := Op.slice 38 (Operand.tmp 64) none (some (Operand.tmp 65)) none, type := 38, pos := "laws.go:627", after := #[{ on := 3, ground := Ground.data }, { on := 4, ground := Ground.data }], guard := none }) (v := ?_) rfl (by kernel_rfl) (by kernel_rfl) (by kernel_rfl) (fun _ _ _ h => h) (Or.inl ⟨by rfl, ?_⟩) (by assumption) ?_
                rotate_left
                · intro wq hSw
                  (try dsimp only at hSw)
                  go_simp
                  try with_reducible rfl
                try simp only [Act.put, List.setIfInBounds_toArray, List.set_cons_zero, List.set_cons_succ]
                refine wpAnyH_ready (rs := [6]) (by kernel_rfl) (by simp) ?_
                refine AllReadyH.cons (o := { dst := some 67, op := Op.call { callee := Callee.value (Operand.func 18), args := #[Operand.tmp 62, Operand.tmp 63, Operand.tmp 66], argTypes := #[29, 9, 38] }, type := 44, pos := "laws.go:627", after := #[{ on := 1, ground := Ground.data }, { on := 2, ground := Ground.data }, { on := 5, ground := Ground.data }], guard := none }) rfl (fun K hK => ?_) AllReadyH.nil
                go_simp
                refine (c18j aT cT T arg aR cR rs j V.drew hj (three_take H3.out j) HTV.out HRV.out HX.out).mono ?_
                rintro e w5 ⟨rfl, hb5⟩
                have HB5 : Hid (Below V.heap.size V w5) := ((Below.refl _ _).drew).trans hb5
                clear hb5
                have s0 := (HB5.out.cell (p := ⟨X, 0, none⟩) hXV).trans r0
                have s1 := (HB5.out.cell (p := ⟨Y, 0, none⟩) hYV).trans r1
                have s2 := (HB5.out.cell (p := ⟨Y, 1, none⟩) hYV).trans r2
                have s3 := (HB5.out.cell (p := ⟨Y, 2, none⟩) hYV).trans r3
                have s4 := (HB5.out.cell (p := ⟨Y, 3, none⟩) hYV).trans r4
                have s5 := (HB5.out.cell (p := ⟨Y, 4, none⟩) hYV).trans r5
                have s6 := (HB5.out.cell (p := ⟨Y, 5, none⟩) hYV).trans r6
                have y0 := (HB5.out.cell (p := ⟨Z, 0, none⟩) hZ).trans v0
                have y1 := (HB5.out.cell (p := ⟨Z, 1, none⟩) hZ).trans v1
                have y2 := (HB5.out.cell (p := ⟨Z, 2, none⟩) hZ).trans v2
                have y3 := (HB5.out.cell (p := ⟨Z, 3, none⟩) hZ).trans v3
                have y4 := (HB5.out.cell (p := ⟨Z, 4, none⟩) hZ).trans v4
                have y5 := (HB5.out.cell (p := ⟨Z, 5, none⟩) hZ).trans v5
                go_wp2_with fail
                clear hHeld
                refine hK.out _ _ ?_ (fun hHeld => ?_)
                · ((try dsimp only); go_keep)
                clear hK K
                try simp only [Act.put, List.setIfInBounds_toArray, List.set_cons_zero, List.set_cons_succ]
                refine wpAnyH_take (i := 7) (oi := { dst := some 68, op := Op.binOp BinOp.neq 44 (Operand.tmp 61) (Operand.tmp 67) 44, type := 4, pos := "laws.go:627", after := #[{ on := 0, ground := Ground.data }, { on := 6, ground := Ground.data }], guard := none }) (v := ?_) rfl (by kernel_rfl) (by kernel_rfl) (by kernel_rfl) (fun _ _ _ h => h) (Or.inl ⟨by rfl, ?_⟩) (by assumption) ?_
                rotate_left
                · intro wq hSw
                  (try dsimp only at hSw)
                  go_simp
                  try with_reducible rfl
                try simp only [Act.put, List.setIfInBounds_toArray, List.set_cons_zero, List.set_cons_succ]
                refine wpAnyH_take (i := 8) (oi := { dst := some 69, op := Op.move (Operand.tmp 68), type := 4, pos := "laws.go:627", after := #[{ on := 7, ground := Ground.data }, { on := 6, ground := Ground.chain }], guard := none }) (v := ?_) rfl (by kernel_rfl) (by kernel_rfl) (by kernel_rfl) (fun _ _ _ h => h) (Or.inl ⟨by rfl, ?_⟩) (by assumption) ?_
                rotate_left
                · intro wq hSw
                  (try dsimp only at hSw)
                  go_simp
                  try with_reducible rfl
                try simp only [Act.put, List.setIfInBounds_toArray, List.set_cons_zero, List.set_cons_succ]
                refine wpAnyH_take (i := 9) (oi := { dst := some 70, op := Op.fieldAddr 44 (Operand.tmp 8) 0, type := 0, pos := "laws.go:627", after := #[{ on := 8, ground := Ground.guard }], guard := some (8, false) }) (v := ?_) rfl (by kernel_rfl) (by kernel_rfl) (by kernel_rfl) (fun _ _ _ h => h) (Or.inl ⟨by rfl, ?_⟩) (by assumption) ?_
                rotate_left
                · intro wq hSw
                  (try dsimp only at hSw)
                  go_simp
                  try with_reducible rfl
                try simp only [Act.put, List.setIfInBounds_toArray, List.set_cons_zero, List.set_cons_succ]
                refine wpAnyH_take (i := 10) (oi := { dst := some 71, op := Op.load 4 (Operand.tmp 70), type := 4, pos := "laws.go:627", after := #[{ on := 9, ground := Ground.data }, { on := 8, ground := Ground.guard }], guard := some (8, false) }) (v := ?_) rfl (by kernel_rfl) (by kernel_rfl) (by kernel_rfl) (fun _ _ _ h => h) (Or.inl ⟨by rfl, ?_⟩) (by assumption) ?_
                rotate_left
                · intro wq hSw
                  (try dsimp only at hSw)
                  go_simp
                  try with_reducible rfl
                try simp only [Act.put, List.setIfInBounds_toArray, List.set_cons_zero, List.set_cons_succ]
                refine wpAnyH_take (i := 11) (oi := { dst := some 72, op := Op.move (Operand.tmp 71), type := 4, pos := "laws.go:627", after := #[{ on := 10, ground := Ground.data }, { on := 8, ground := Ground.chain }, { on := 8, ground := Ground.guard }], guard := some (8, false) }) (v := ?_) rfl (by kernel_rfl) (by kernel_rfl) (by kernel_rfl) (fun _ _ _ h => h) (Or.inl ⟨by rfl, ?_⟩) (by assumption) ?_
                rotate_left
                · intro wq hSw
                  (try dsimp only at hSw)
                  go_simp
                  try with_reducible rfl
                try simp only [Act.put, List.setIfInBounds_toArray, List.set_cons_zero, List.set_cons_succ]
                refine wpAnyH_take (i := 12) (oi := { dst := some 73, op := Op.load 44 (Operand.tmp 8), type := 44, pos := "laws.go:627", after := #[{ on := 11, ground := Ground.guard }], guard := some (11, true) }) (v := undef) rfl (by kernel_rfl) (by kernel_rfl) (by kernel_rfl) (fun _ _ _ h => h) (Or.inr ⟨by rfl, rfl⟩) (by assumption) ?_
                try simp only [Act.put, List.setIfInBounds_toArray, List.set_cons_zero, List.set_cons_succ]
                refine wpAnyH_take (i := 13) (oi := { dst := some 74, op := Op.load 44 (Operand.tmp 6), type := 44, pos := "laws.go:627", after := #[{ on := 11, ground := Ground.guard }], guard := some (11, true) }) (v := undef) rfl (by kernel_rfl) (by kernel_rfl) (by kernel_rfl) (fun _ _ _ h => h) (Or.inr ⟨by rfl, rfl⟩) (by assumption) ?_
                try simp only [Act.put, List.setIfInBounds_toArray, List.set_cons_zero, List.set_cons_succ]
                refine wpAnyH_take (i := 14) (oi := { dst := some 75, op := Op.binOp BinOp.neq 44 (Operand.tmp 73) (Operand.tmp 74) 44, type := 4, pos := "laws.go:627", after := #[{ on := 12, ground := Ground.data }, { on := 13, ground := Ground.data }, { on := 11, ground := Ground.guard }], guard := some (11, true) }) (v := undef) rfl (by kernel_rfl) (by kernel_rfl) (by kernel_rfl) (fun _ _ _ h => h) (Or.inr ⟨by rfl, rfl⟩) (by assumption) ?_
                try simp only [Act.put, List.setIfInBounds_toArray, List.set_cons_zero, List.set_cons_succ]
                refine wpAnyH_take (i := 15) (oi := { dst := some 76, op := Op.pick (Operand.tmp 72) (Operand.tmp 75) (Operand.const (Value.bool false)), type := 4, pos := "laws.go:627", after := #[{ on := 11, ground := Ground.data }, { on := 14, ground := Ground.data }, { on := 8, ground := Ground.guard }], guard := some (8, false) }) (v := ?_) rfl (by kernel_rfl) (by kernel_rfl) (by kernel_rfl) (fun _ _ _ h => h) (Or.inl ⟨by rfl, ?_⟩) (by assumption) ?_
                rotate_left
                · intro wq hSw
                  (try dsimp only at hSw)
                  go_simp
                  try with_reducible rfl
                try simp only [Act.put, List.setIfInBounds_toArray, List.set_cons_zero, List.set_cons_succ]
                refine wpAnyH_take (i := 16) (oi := { dst := some 77, op := Op.pick (Operand.tmp 69) (Operand.const (Value.bool true)) (Operand.tmp 76), type := 4, pos := "laws.go:627", after := #[{ on := 8, ground := Ground.data }, { on := 15, ground := Ground.data }], guard := none }) (v := ?_) rfl (by kernel_rfl) (by kernel_rfl) (by kernel_rfl) (fun _ _ _ h => h) (Or.inl ⟨by rfl, ?_⟩) (by assumption) ?_
                rotate_left
                · intro wq hSw
                  (try dsimp only at hSw)
                  go_simp
                  try with_reducible rfl
                try simp only [Act.put, List.setIfInBounds_toArray, List.set_cons_zero, List.set_cons_succ]
                refine wpAnyH_take (i := 17) (oi := { dst := some 78, op := Op.move (Operand.tmp 77), type := 4, pos := "laws.go:627", after := #[{ on := 16, ground := Ground.data }, { on := 11, ground := Ground.chain }], guard := none }) (v := ?_) rfl (by kernel_rfl) (by kernel_rfl) (by kernel_rfl) (fun _ _ _ h => h) (Or.inl ⟨by rfl, ?_⟩) (by assumption) ?_
                rotate_left
                · intro wq hSw
                  (try dsimp only at hSw)
                  go_simp
                  try with_reducible rfl
                try simp only [Act.put, List.setIfInBounds_toArray, List.set_cons_zero, List.set_cons_succ]
                refine wpAnyH_take (i := 18) (oi := { dst := some 79, op := Op.fieldAddr 44 (Operand.tmp 8) 0, type := 0, pos := "laws.go:627", after := #[{ on := 17, ground := Ground.guard }], guard := some (17, false) }) (v := ?_) rfl (by kernel_rfl) (by kernel_rfl) (by kernel_rfl) (fun _ _ _ h => h) (Or.inl ⟨by rfl, ?_⟩) (by assumption) ?_
                rotate_left
                · intro wq hSw
                  (try dsimp only at hSw)
                  go_simp
                  try with_reducible rfl
                try simp only [Act.put, List.setIfInBounds_toArray, List.set_cons_zero, List.set_cons_succ]
                refine wpAnyH_take (i := 19) (oi := { dst := some 80, op := Op.load 4 (Operand.tmp 79), type := 4, pos := "laws.go:627", after := #[{ on := 18, ground := Ground.data }, { on := 17, ground := Ground.guard }], guard := some (17, false) }) (v := ?_) rfl (by kernel_rfl) (by kernel_rfl) (by kernel_rfl) (fun _ _ _ h => h) (Or.inl ⟨by rfl, ?_⟩) (by assumption) ?_
                rotate_left
                · intro wq hSw
                  (try dsimp only at hSw)
                  go_simp
                  try with_reducible rfl
                try simp only [Act.put, List.setIfInBounds_toArray, List.set_cons_zero, List.set_cons_succ]
                refine wpAnyH_take (i := 20) (oi := { dst := some 81, op := Op.unOp UnOp.not 4 (Operand.tmp 80), type := 4, pos := "laws.go:627", after := #[{ on := 19, ground := Ground.data }, { on := 17, ground := Ground.guard }], guard := some (17, false) }) (v := ?_) rfl (by kernel_rfl) (by kernel_rfl) (by kernel_rfl) (fun _ _ _ h => h) (Or.inl ⟨by rfl, ?_⟩) (by assumption) ?_
                rotate_left
                · intro wq hSw
                  (try dsimp only at hSw)
                  go_simp
                  try with_reducible rfl
                try simp only [Act.put, List.setIfInBounds_toArray, List.set_cons_zero, List.set_cons_succ]
                refine wpAnyH_take (i := 21) (oi := { dst := some 82, op := Op.move (Operand.tmp 81), type := 4, pos := "laws.go:627", after := #[{ on := 20, ground := Ground.data }, { on := 17, ground := Ground.chain }, { on := 17, ground := Ground.guard }], guard := some (17, false) }) (v := ?_) rfl (by kernel_rfl) (by kernel_rfl) (by kernel_rfl) (fun _ _ _ h => h) (Or.inl ⟨by rfl, ?_⟩) (by assumption) ?_
                rotate_left
                · intro wq hSw
                  (try dsimp only at hSw)
                  go_simp
                  try with_reducible rfl
                try simp only [Act.put, List.setIfInBounds_toArray, List.set_cons_zero, List.set_cons_succ]
                refine wpAnyH_take (i := 22) (oi := { dst := some 83, op := Op.fieldAddr 44 (Operand.tmp 8) 3, type := 0, pos := "laws.go:627", after := #[{ on := 21, ground := Ground.guard }], guard := some (21, true) }) (v := ?_) rfl (by kernel_rfl) (by kernel_rfl) (by kernel_rfl) (fun _ _ _ h => h) (Or.inl ⟨by rfl, ?_⟩) (by assumption) ?_
                rotate_left
                · intro wq hSw
                  (try dsimp only at hSw)
                  go_simp
                  try with_reducible rfl
                try simp only [Act.put, List.setIfInBounds_toArray, List.set_cons_zero, List.set_cons_succ]
                refine wpAnyH_take (i := 23) (oi := { dst := some 84, op := Op.load 9 (Operand.tmp 83), type := 9, pos := "laws.go:627", after := #[{ on := 22, ground := Ground.data }, { on := 21, ground := Ground.guard }], guard := some (21, true) }) (v := ?_) rfl (by kernel_rfl) (by kernel_rfl) (by kernel_rfl) (fun _ _ _ h => h) (Or.inl ⟨by rfl, ?_⟩) (by assumption) ?_
                rotate_left
                · intro wq hSw
                  (try dsimp only at hSw)
                  go_simp
                  try with_reducible rfl
                try simp only [Act.put, List.setIfInBounds_toArray, List.set_cons_zero, List.set_cons_succ]
                refine wpAnyH_take (i := 24) (oi := { dst := some 85, op := Op.binOp BinOp.eql 9 (Operand.tmp 84) (Operand.const (Value.string { data := #[] })) 9, type := 4, pos := "laws.go:627", after := #[{ on := 23, ground := Ground.data }, { on := 21, ground := Ground.guard }], guard := some (21, true) }) (v := ?_) rfl (by kernel_rfl) (by kernel_rfl) (by kernel_rfl) (fun _ _ _ h => h) (Or.inl ⟨by rfl, ?_⟩) (by assumption) ?_
                rotate_left
                · intro wq hSw
                  (try dsimp only at hSw)
                  go_simp
                  try with_reducible rfl
                try simp only [Act.put, List.setIfInBounds_toArray, List.set_cons_zero, List.set_cons_succ]
                refine wpAnyH_take (i := 25) (oi := { dst := some 86, op := Op.pick (Operand.tmp 82) (Operand.tmp 85) (Operand.const (Value.bool false)), type := 4, pos := "laws.go:627", after := #[{ on := 21, ground := Ground.data }, { on := 24, ground := Ground.data }, { on := 17, ground := Ground.guard }], guard := some (17, false) }) (v := ?_) rfl (by kernel_rfl) (by kernel_rfl) (by kernel_rfl) (fun _ _ _ h => h) (Or.inl ⟨by rfl, ?_⟩) (by assumption) ?_
                rotate_left
                · intro wq hSw
                  (try dsimp only at hSw)
                  go_simp
                  try with_reducible rfl
                try simp only [Act.put, List.setIfInBounds_toArray, List.set_cons_zero, List.set_cons_succ]
                refine wpAnyH_take (i := 26) (oi := { dst := some 87, op := Op.pick (Operand.tmp 78) (Operand.const (Value.bool true)) (Operand.tmp 86), type := 4, pos := "laws.go:627", after := #[{ on := 17, ground := Ground.data }, { on := 25, ground := Ground.data }], guard := none }) (v := ?_) rfl (by kernel_rfl) (by kernel_rfl) (by kernel_rfl) (fun _ _ _ h => h) (Or.inl ⟨by rfl, ?_⟩) (by assumption) ?_
                rotate_left
                · intro wq hSw
                  (try dsimp only at hSw)
                  go_simp
                  try with_reducible rfl
                try simp only [Act.put, List.setIfInBounds_toArray, List.set_cons_zero, List.set_cons_succ]
                refine wpAnyH_take (i := 27) (oi := { dst := some 88, op := Op.move (Operand.tmp 87), type := 4, pos := "laws.go:627", after := #[{ on := 26, ground := Ground.data }, { on := 21, ground := Ground.chain }], guard := none }) (v := ?_) rfl (by kernel_rfl) (by kernel_rfl) (by kernel_rfl) (fun _ _ _ h => h) (Or.inl ⟨by rfl, ?_⟩) (by assumption) ?_
                rotate_left
                · intro wq hSw
                  (try dsimp only at hSw)
                  go_simp
                  try with_reducible rfl
                try simp only [Act.put, List.setIfInBounds_toArray, List.set_cons_zero, List.set_cons_succ]
                refine wpAnyH_take (i := 28) (oi := { dst := some 89, op := Op.fieldAddr 44 (Operand.tmp 8) 4, type := 0, pos := "laws.go:627", after := #[{ on := 27, ground := Ground.guard }], guard := some (27, false) }) (v := ?_) rfl (by kernel_rfl) (by kernel_rfl) (by kernel_rfl) (fun _ _ _ h => h) (Or.inl ⟨by rfl, ?_⟩) (by assumption) ?_
                rotate_left
                · intro wq hSw
                  (try dsimp only at hSw)
                  go_simp
                  try with_reducible rfl
                try simp only [Act.put, List.setIfInBounds_toArray, List.set_cons_zero, List.set_cons_succ]
                refine wpAnyH_take (i := 29) (oi := { dst := some 90, op := Op.load 3 (Operand.tmp 89), type := 3, pos := "laws.go:627", after := #[{ on := 28, ground := Ground.data }, { on := 27, ground := Ground.guard }], guard := some (27, false) }) (v := ?_) rfl (by kernel_rfl) (by kernel_rfl) (by kernel_rfl) (fun _ _ _ h => h) (Or.inl ⟨by rfl, ?_⟩) (by assumption) ?_
                rotate_left
                · intro wq hSw
                  (try dsimp only at hSw)
                  go_simp
                  try with_reducible rfl
                try simp only [Act.put, List.setIfInBounds_toArray, List.set_cons_zero, List.set_cons_succ]
                refine wpAnyH_take (i := 30) (oi := { dst := some 91, op := Op.fieldAddr 44 (Operand.tmp 6) 4, type := 0, pos := "laws.go:627", after := #[{ on := 27, ground := Ground.guard }], guard := some (27, false) }) (v := ?_) rfl (by kernel_rfl) (by kernel_rfl) (by kernel_rfl) (fun _ _ _ h => h) (Or.inl ⟨by rfl, ?_⟩) (by assumption) ?_
                rotate_left
                · intro wq hSw
                  (try dsimp only at hSw)
                  go_simp
                  try with_reducible rfl
                try simp only [Act.put, List.setIfInBounds_toArray, List.set_cons_zero, List.set_cons_succ]
                refine wpAnyH_take (i := 31) (oi := { dst := some 92, op := Op.load 3 (Operand.tmp 91), type := 3, pos := "laws.go:627", after := #[{ on := 30, ground := Ground.data }, { on := 27, ground := Ground.guard }], guard := some (27, false) }) (v := ?_) rfl (by kernel_rfl) (by kernel_rfl) (by kernel_rfl) (fun _ _ _ h => h) (Or.inl ⟨by rfl, ?_⟩) (by assumption) ?_
                rotate_left
                · intro wq hSw
                  (try dsimp only at hSw)
                  go_simp
                  try with_reducible rfl
                try simp only [Act.put, List.setIfInBounds_toArray, List.set_cons_zero, List.set_cons_succ]
                refine wpAnyH_take (i := 32) (oi := { dst := some 93, op := Op.binOp BinOp.gtr 3 (Operand.tmp 90) (Operand.tmp 92) 3, type := 4, pos := "laws.go:627", after := #[{ on := 29, ground := Ground.data }, { on := 31, ground := Ground.data }, { on := 27, ground := Ground.guard }], guard := some (27, false) }) (v := ?_) rfl (by kernel_rfl) (by kernel_rfl) (by kernel_rfl) (fun _ _ _ h => h) (Or.inl ⟨by rfl, ?_⟩) (by assumption) ?_
                rotate_left
                · intro wq hSw
                  (try dsimp only at hSw)
                  go_simp
                  try with_reducible rfl
                try simp only [Act.put, List.setIfInBounds_toArray, List.set_cons_zero, List.set_cons_succ]
                refine wpAnyH_take (i := 33) (oi := { dst := some 94, op := Op.pick (Operand.tmp 88) (Operand.const (Value.bool true)) (Operand.tmp 93), type := 4, pos := "laws.go:627", after := #[{ on := 27, ground := Ground.data }, { on := 32, ground := Ground.data }], guard := none }) (v := ?_) rfl (by kernel_rfl) (by kernel_rfl) (by kernel_rfl) (fun _ _ _ h => h) (Or.inl ⟨by rfl, ?_⟩) (by assumption) ?_
                rotate_left
                · intro wq hSw
                  (try dsimp only at hSw)
                  go_simp
                  try with_reducible rfl
                try simp only [Act.put, List.setIfInBounds_toArray, List.set_cons_zero, List.set_cons_succ]
                refine wpAnyH_done (by kernel_rfl) ?_ _
                have hBN : Below w3.heap.size w3 w5 := hbr.out.trans ((HBV.out.trans (HB5.out.mono HBV.out.size)).mono hzr)
                clear hHeld
                go_wp2
                go_roundw
                case rel => exact ⟨j + 1, by omega, by go_num, hBN⟩
                case measure => simp [intOf]; omega
              · obtain ⟨hoo, m1, m2, m3, m4, m5⟩ := pre_same HPRE.out
                cases hoo
            · go_wp2_with fail
              have hTA : TurnAt wr ((((((w4.setCell ⟨wr.heap.size, 0, none⟩ (.bool xo)).setCell ⟨wr.heap.size, 1, none⟩ (.int .i64 xc)).setCell ⟨wr.heap.size, 2, none⟩ (.string xt)).setCell ⟨wr.heap.size, 3, none⟩ (.bool xh)).setCell ⟨wr.heap.size, 4, none⟩ (.string xn)).setCell ⟨wr.heap.size, 5, none⟩ (.int .i64 xk)) wr.heap.size xo xc xt xh xn xk := turn_old xo xc xt xh xn xk hb4
              obtain ⟨hBV, hZ, v0, v1, v2, v3, v4, v5⟩ := hTA
              have HBV : Hid (Below wr.heap.size wr ((((((w4.setCell ⟨wr.heap.size, 0, none⟩ (.bool xo)).setCell ⟨wr.heap.size, 1, none⟩ (.int .i64 xc)).setCell ⟨wr.heap.size, 2, none⟩ (.string xt)).setCell ⟨wr.heap.size, 3, none⟩ (.bool xh)).setCell ⟨wr.heap.size, 4, none⟩ (.string xn)).setCell ⟨wr.heap.size, 5, none⟩ (.int .i64 xk))) := hBV
              clear hBV
              generalize ((((((w4.setCell ⟨wr.heap.size, 0, none⟩ (.bool xo)).setCell ⟨wr.heap.size, 1, none⟩ (.int .i64 xc)).setCell ⟨wr.heap.size, 2, none⟩ (.string xt)).setCell ⟨wr.heap.size, 3, none⟩ (.bool xh)).setCell ⟨wr.heap.size, 4, none⟩ (.string xn)).setCell ⟨wr.heap.size, 5, none⟩ (.int .i64 xk)) = V at *
              generalize hZe : wr.heap.size = Z at v0 v1 v2 v3 v4 v5 hZ ⊢
              clear hZe
              have r0 := (HBV.out.cell (p := ⟨X, 0, none⟩) hXr).trans e0
              have r1 := (HBV.out.cell (p := ⟨Y, 0, none⟩) hYr).trans e1
              have r2 := (HBV.out.cell (p := ⟨Y, 1, none⟩) hYr).trans e2
              have r3 := (HBV.out.cell (p := ⟨Y, 2, none⟩) hYr).trans e3
              have r4 := (HBV.out.cell (p := ⟨Y, 3, none⟩) hYr).trans e4
              have r5 := (HBV.out.cell (p := ⟨Y, 4, none⟩) hYr).trans e5
              have r6 := (HBV.out.cell (p := ⟨Y, 5, none⟩) hYr).trans e6
              have hXV : X < V.heap.size := Nat.lt_of_lt_of_le hXr HBV.out.size
              have hYV : Y < V.heap.size := Nat.lt_of_lt_of_le hYr HBV.out.size
              have HTV : Hid (InsAt V.drew aT T) := ins_below (ins_below HT3.out HBV.out) ((Below.refl _ _).drew)
              have HRV : Hid (ResAt V.drew aR (rs.take j)) := res_below (res_below HR3.out HBV.out) ((Below.refl _ _).drew)
              clear HB4
              cases xo
              · have hk0 : xk ≤ k := HPRE.out.steps
                have hk1 : decide (k < xk) = false := decide_eq_false (by omega)
                have hn1 : 1 ≤ xn.size := HPRE.out.name rfl
                have hne1 : xn.toList.isEmpty = false := by rw [ByteArray.toList_eq]; exact str_isEmpty xn hn1
                refine wp_region_held_drew (S := (fun u => u.cell? ⟨X, 0, none⟩ = some (.slice aT T.length cT) ∧ u.cell? ⟨Y, 0, none⟩ = some (.bool false) ∧ u.cell? ⟨Y, 1, none⟩ = some (.int .i64 c) ∧ u.cell? ⟨Y, 2, none⟩ = some (.string t) ∧ u.cell? ⟨Y, 3, none⟩ = some (.bool hh) ∧ u.cell? ⟨Y, 4, none⟩ = some (.string n) ∧ u.cell? ⟨Y, 5, none⟩ = some (.int .i64 k) ∧ u.cell? ⟨Z, 0, none⟩ = some (.bool false) ∧ u.cell? ⟨Z, 1, none⟩ = some (.int .i64 xc) ∧ u.cell? ⟨Z, 2, none⟩ = some (.string xt) ∧ u.cell? ⟨Z, 3, none⟩ = some (.bool xh) ∧ u.cell? ⟨Z, 4, none⟩ = some (.string xn) ∧ u.cell? ⟨Z, 5, none⟩ = some (.int .i64 xk))) (by kernel_rfl) ?_ (fun hHeld => ?_)
                · ((try dsimp only); go_keep)
                refine wpAnyH_take (i := 0) (oi := { dst := some 61, op := Op.load 44 (Operand.tmp 8), type := 44, pos := "laws.go:627", after := #[], guard := none }) (v := ?_) rfl (by kernel_rfl) (by kernel_rfl) (by kernel_rfl) (fun _ _ _ h => h) (Or.inl ⟨by rfl, ?_⟩) (by assumption) ?_
                rotate_left
                · intro wq hSw
                  (try dsimp only at hSw)
                  go_simp
                  try with_reducible rfl
                try simp only [Act.put, List.setIfInBounds_toArray, List.set_cons_zero, List.set_cons_succ]
                refine wpAnyH_take (i := 1) (oi := { dst := some 62, op := Op.load 29 (Operand.tmp 3), type := 29, pos := "laws.go:627", after := #[], guard := none }) (v := ?_) rfl (by kernel_rfl) (by kernel_rfl) (by kernel_rfl) (fun _ _ _ h => h) (Or.inl ⟨by rfl, ?_⟩) (by assumption) ?_
                rotate_left
                · intro wq hSw
                  (try dsimp only at hSw)
                  go_simp
                  try with_reducible rfl
                try simp only [Act.put, List.setIfInBounds_toArray, List.set_cons_zero, List.set_cons_succ]
                refine wpAnyH_take (i := 2) (oi := { dst := some 63, op := Op.move (Operand.tmp 4), type := 9, pos := "laws.go:627", after := #[], guard := none }) (v := ?_) rfl (by kernel_rfl) (by kernel_rfl) (by kernel_rfl) (fun _ _ _ h => h) (Or.inl ⟨by rfl, ?_⟩) (by assumption) ?_
                rotate_left
                · intro wq hSw
                  (try dsimp only at hSw)
                  go_simp
                  try with_reducible rfl
                try simp only [Act.put, List.setIfInBounds_toArray, List.set_cons_zero, List.set_cons_succ]
                refine wpAnyH_take (i := 3) (oi := { dst := some 64, op := Op.move (Operand.tmp 5), type := 38, pos := "laws.go:627", after := #[], guard := none }) (v := ?_) rfl (by kernel_rfl) (by kernel_rfl) (by kernel_rfl) (fun _ _ _ h => h) (Or.inl ⟨by rfl, ?_⟩) (by assumption) ?_
                rotate_left
                · intro wq hSw
                  (try dsimp only at hSw)
                  go_simp
                  try with_reducible rfl
                try simp only [Act.put, List.setIfInBounds_toArray, List.set_cons_zero, List.set_cons_succ]
                refine wpAnyH_take (i := 4) (oi := { dst := some 65, op := Op.move (Operand.tmp 7), type := 3, pos := "laws.go:627", after := #[], guard := none }) (v := ?_) rfl (by kernel_rfl) (by kernel_rfl) (by kernel_rfl) (fun _ _ _ h => h) (Or.inl ⟨by rfl, ?_⟩) (by assumption) ?_
                rotate_left
                · intro wq hSw
                  (try dsimp only at hSw)
                  go_simp
                  try with_reducible rfl
                try simp only [Act.put, List.setIfInBounds_toArray, List.set_cons_zero, List.set_cons_succ]
                refine wpAnyH_take (i := 5) (oi := { dst := some 66, op := Op.slice 38 (Operand.tmp 64) none (some (Operand.tmp 65)) none, type := 38, pos := "laws.go:627", after := #[{ on := 3, ground := Ground.data }, { on := 4, ground := Ground.data }], guard := none }) (v := ?_) rfl (by kernel_rfl) (by kernel_rfl) (by kernel_rfl) (fun _ _ _ h => h) (Or.inl ⟨by rfl, ?_⟩) (by assumption) ?_
                rotate_left
                · intro wq hSw
                  (try dsimp only at hSw)
                  go_simp
                  try with_reducible rfl
                try simp only [Act.put, List.setIfInBounds_toArray, List.set_cons_zero, List.set_cons_succ]
                refine wpAnyH_ready (rs := [6]) (by kernel_rfl) (by simp) ?_
                refine AllReadyH.cons (o := { dst := some 67, op := Op.call { callee := Callee.value (Operand.func 18), args := #[Operand.tmp 62, Operand.tmp 63, Operand.tmp 66], argTypes := #[29, 9, 38] }, type := 44, pos := "laws.go:627", after := #[{ on := 1, ground := Ground.data }, { on := 2, ground := Ground.data }, { on := 5, ground := Ground.data }], guard := none }) rfl (fun K hK => ?_) AllReadyH.nil
                go_simp
                refine (c18j aT cT T arg aR cR rs j V.drew hj (three_take H3.out j) HTV.out HRV.out HX.out).mono ?_
                rintro e w5 ⟨rfl, hb5⟩
                have HB5 : Hid (Below V.heap.size V w5) := ((Below.refl _ _).drew).trans hb5
                clear hb5
                have s0 := (HB5.out.cell (p := ⟨X, 0, none⟩) hXV).trans r0
                have s1 := (HB5.out.cell (p := ⟨Y, 0, none⟩) hYV).trans r1
                have s2 := (HB5.out.cell (p := ⟨Y, 1, none⟩) hYV).trans r2
                have s3 := (HB5.out.cell (p := ⟨Y, 2, none⟩) hYV).trans r3
                have s4 := (HB5.out.cell (p := ⟨Y, 3, none⟩) hYV).trans r4
                have s5 := (HB5.out.cell (p := ⟨Y, 4, none⟩) hYV).trans r5
                have s6 := (HB5.out.cell (p := ⟨Y, 5, none⟩) hYV).trans r6
                have y0 := (HB5.out.cell (p := ⟨Z, 0, none⟩) hZ).trans v0
                have y1 := (HB5.out.cell (p := ⟨Z, 1, none⟩) hZ).trans v1
                have y2 := (HB5.out.cell (p := ⟨Z, 2, none⟩) hZ).trans v2
                have y3 := (HB5.out.cell (p := ⟨Z, 3, none⟩) hZ).trans v3
                have y4 := (HB5.out.cell (p := ⟨Z, 4, none⟩) hZ).trans v4
                have y5 := (HB5.out.cell (p := ⟨Z, 5, none⟩) hZ).trans v5
                go_wp2_with fail
                clear hHeld
                refine hK.out _ _ ?_ (fun hHeld => ?_)
                · ((try dsimp only); go_keep)
                clear hK K
                try simp only [Act.put, List.setIfInBounds_toArray, List.set_cons_zero, List.set_cons_succ]
                refine wpAnyH_take (i := 7) (oi := { dst := some 68, op := Op.binOp BinOp.neq 44 (Operand.tmp 61) (Operand.tmp 67) 44, type := 4, pos := "laws.go:627", after := #[{ on := 0, ground := Ground.data }, { on := 6, ground := Ground.data }], guard := none }) (v := ?_) rfl (by kernel_rfl) (by kernel_rfl) (by kernel_rfl) (fun _ _ _ h => h) (Or.inl ⟨by rfl, ?_⟩) (by assumption) ?_
                rotate_left
                · intro wq hSw
                  (try dsimp only at hSw)
                  go_simp
                  try with_reducible rfl
                try simp only [Act.put, List.setIfInBounds_toArray, List.set_cons_zero, List.set_cons_succ]
                refine wpAnyH_take (i := 8) (oi := { dst := some 69, op := Op.move (Operand.tmp 68), type := 4, pos := "laws.go:627", after := #[{ on := 7, ground := Ground.data }, { on := 6, ground := Ground.chain }], guard := none }) (v := ?_) rfl (by kernel_rfl) (by kernel_rfl) (by kernel_rfl) (fun _ _ _ h => h) (Or.inl ⟨by rfl, ?_⟩) (by assumption) ?_
                rotate_left
                · intro wq hSw
                  (try dsimp only at hSw)
                  go_simp
                  try with_reducible rfl
                try simp only [Act.put, List.setIfInBounds_toArray, List.set_cons_zero, List.set_cons_succ]
                refine wpAnyH_take (i := 9) (oi := { dst := some 70, op := Op.fieldAddr 44 (Operand.tmp 8) 0, type := 0, pos := "laws.go:627", after := #[{ on := 8, ground := Ground.guard }], guard := some (8, false) }) (v := ?_) rfl (by kernel_rfl) (by kernel_rfl) (by kernel_rfl) (fun _ _ _ h => h) (Or.inl ⟨by rfl, ?_⟩) (by assumption) ?_
                rotate_left
                · intro wq hSw
                  (try dsimp only at hSw)
                  go_simp
                  try with_reducible rfl
                try simp only [Act.put, List.setIfInBounds_toArray, List.set_cons_zero, List.set_cons_succ]
                refine wpAnyH_take (i := 10) (oi := { dst := some 71, op := Op.load 4 (Operand.tmp 70), type := 4, pos := "laws.go:627", after := #[{ on := 9, ground := Ground.data }, { on := 8, ground := Ground.guard }], guard := some (8, false) }) (v := ?_) rfl (by kernel_rfl) (by kernel_rfl) (by kernel_rfl) (fun _ _ _ h => h) (Or.inl ⟨by rfl, ?_⟩) (by assumption) ?_
                rotate_left
                · intro wq hSw
                  (try dsimp only at hSw)
                  go_simp
                  try with_reducible rfl
                try simp only [Act.put, List.setIfInBounds_toArray, List.set_cons_zero, List.set_cons_succ]
                refine wpAnyH_take (i := 11) (oi := { dst := some 72, op := Op.move (Operand.tmp 71), type := 4, pos := "laws.go:627", after := #[{ on := 10, ground := Ground.data }, { on := 8, ground := Ground.chain }, { on := 8, ground := Ground.guard }], guard := some (8, false) }) (v := ?_) rfl (by kernel_rfl) (by kernel_rfl) (by kernel_rfl) (fun _ _ _ h => h) (Or.inl ⟨by rfl, ?_⟩) (by assumption) ?_
                rotate_left
                · intro wq hSw
                  (try dsimp only at hSw)
                  go_simp
                  try with_reducible rfl
                try simp only [Act.put, List.setIfInBounds_toArray, List.set_cons_zero, List.set_cons_succ]
                refine wpAnyH_take (i := 12) (oi := { dst := some 73, op := Op.load 44 (Operand.tmp 8), type := 44, pos := "laws.go:627", after := #[{ on := 11, ground := Ground.guard }], guard := some (11, true) }) (v := undef) rfl (by kernel_rfl) (by kernel_rfl) (by kernel_rfl) (fun _ _ _ h => h) (Or.inr ⟨by rfl, rfl⟩) (by assumption) ?_
                try simp only [Act.put, List.setIfInBounds_toArray, List.set_cons_zero, List.set_cons_succ]
                refine wpAnyH_take (i := 13) (oi := { dst := some 74, op := Op.load 44 (Operand.tmp 6), type := 44, pos := "laws.go:627", after := #[{ on := 11, ground := Ground.guard }], guard := some (11, true) }) (v := undef) rfl (by kernel_rfl) (by kernel_rfl) (by kernel_rfl) (fun _ _ _ h => h) (Or.inr ⟨by rfl, rfl⟩) (by assumption) ?_
                try simp only [Act.put, List.setIfInBounds_toArray, List.set_cons_zero, List.set_cons_succ]
                refine wpAnyH_take (i := 14) (oi := { dst := some 75, op := Op.binOp BinOp.neq 44 (Operand.tmp 73) (Operand.tmp 74) 44, type := 4, pos := "laws.go:627", after := #[{ on := 12, ground := Ground.data }, { on := 13, ground := Ground.data }, { on := 11, ground := Ground.guard }], guard := some (11, true) }) (v := undef) rfl (by kernel_rfl) (by kernel_rfl) (by kernel_rfl) (fun _ _ _ h => h) (Or.inr ⟨by rfl, rfl⟩) (by assumption) ?_
                try simp only [Act.put, List.setIfInBounds_toArray, List.set_cons_zero, List.set_cons_succ]
                refine wpAnyH_take (i := 15) (oi := { dst := some 76, op := Op.pick (Operand.tmp 72) (Operand.tmp 75) (Operand.const (Value.bool false)), type := 4, pos := "laws.go:627", after := #[{ on := 11, ground := Ground.data }, { on := 14, ground := Ground.data }, { on := 8, ground := Ground.guard }], guard := some (8, false) }) (v := ?_) rfl (by kernel_rfl) (by kernel_rfl) (by kernel_rfl) (fun _ _ _ h => h) (Or.inl ⟨by rfl, ?_⟩) (by assumption) ?_
                rotate_left
                · intro wq hSw
                  (try dsimp only at hSw)
                  go_simp
                  try with_reducible rfl
                try simp only [Act.put, List.setIfInBounds_toArray, List.set_cons_zero, List.set_cons_succ]
                refine wpAnyH_take (i := 16) (oi := { dst := some 77, op := Op.pick (Operand.tmp 69) (Operand.const (Value.bool true)) (Operand.tmp 76), type := 4, pos := "laws.go:627", after := #[{ on := 8, ground := Ground.data }, { on := 15, ground := Ground.data }], guard := none }) (v := ?_) rfl (by kernel_rfl) (by kernel_rfl) (by kernel_rfl) (fun _ _ _ h => h) (Or.inl ⟨by rfl, ?_⟩) (by assumption) ?_
                rotate_left
                · intro wq hSw
                  (try dsimp only at hSw)
                  go_simp
                  try with_reducible rfl
                try simp only [Act.put, List.setIfInBounds_toArray, List.set_cons_zero, List.set_cons_succ]
                refine wpAnyH_take (i := 17) (oi := { dst := some 78, op := Op.move (Operand.tmp 77), type := 4, pos := "laws.go:627", after := #[{ on := 16, ground := Ground.data }, { on := 11, ground := Ground.chain }], guard := none }) (v := ?_) rfl (by kernel_rfl) (by kernel_rfl) (by kernel_rfl) (fun _ _ _ h => h) (Or.inl ⟨by rfl, ?_⟩) (by assumption) ?_
                rotate_left
                · intro wq hSw
                  (try dsimp only at hSw)
                  go_simp
                  try with_reducible rfl
                try simp only [Act.put, List.setIfInBounds_toArray, List.set_cons_zero, List.set_cons_succ]
                refine wpAnyH_take (i := 18) (oi := { dst := some 79, op := Op.fieldAddr 44 (Operand.tmp 8) 0, type := 0, pos := "laws.go:627", after := #[{ on := 17, ground := Ground.guard }], guard := some (17, false) }) (v := ?_) rfl (by kernel_rfl) (by kernel_rfl) (by kernel_rfl) (fun _ _ _ h => h) (Or.inl ⟨by rfl, ?_⟩) (by assumption) ?_
                rotate_left
                · intro wq hSw
                  (try dsimp only at hSw)
                  go_simp
                  try with_reducible rfl
                try simp only [Act.put, List.setIfInBounds_toArray, List.set_cons_zero, List.set_cons_succ]
                refine wpAnyH_take (i := 19) (oi := { dst := some 80, op := Op.load 4 (Operand.tmp 79), type := 4, pos := "laws.go:627", after := #[{ on := 18, ground := Ground.data }, { on := 17, ground := Ground.guard }], guard := some (17, false) }) (v := ?_) rfl (by kernel_rfl) (by kernel_rfl) (by kernel_rfl) (fun _ _ _ h => h) (Or.inl ⟨by rfl, ?_⟩) (by assumption) ?_
                rotate_left
                · intro wq hSw
                  (try dsimp only at hSw)
                  go_simp
                  try with_reducible rfl
                try simp only [Act.put, List.setIfInBounds_toArray, List.set_cons_zero, List.set_cons_succ]
                refine wpAnyH_take (i := 20) (oi := { dst := some 81, op := Op.unOp UnOp.not 4 (Operand.tmp 80), type := 4, pos := "laws.go:627", after := #[{ on := 19, ground := Ground.data }, { on := 17, ground := Ground.guard }], guard := some (17, false) }) (v := ?_) rfl (by kernel_rfl) (by kernel_rfl) (by kernel_rfl) (fun _ _ _ h => h) (Or.inl ⟨by rfl, ?_⟩) (by assumption) ?_
                rotate_left
                · intro wq hSw
                  (try dsimp only at hSw)
                  go_simp
                  try with_reducible rfl
                try simp only [Act.put, List.setIfInBounds_toArray, List.set_cons_zero, List.set_cons_succ]
                refine wpAnyH_take (i := 21) (oi := { dst := some 82, op := Op.move (Operand.tmp 81), type := 4, pos := "laws.go:627", after := #[{ on := 20, ground := Ground.data }, { on := 17, ground := Ground.chain }, { on := 17, ground := Ground.guard }], guard := some (17, false) }) (v := ?_) rfl (by kernel_rfl) (by kernel_rfl) (by kernel_rfl) (fun _ _ _ h => h) (Or.inl ⟨by rfl, ?_⟩) (by assumption) ?_
                rotate_left
                · intro wq hSw
                  (try dsimp only at hSw)
                  go_simp
                  try with_reducible rfl
                try simp only [Act.put, List.setIfInBounds_toArray, List.set_cons_zero, List.set_cons_succ]
                refine wpAnyH_take (i := 22) (oi := { dst := some 83, op := Op.fieldAddr 44 (Operand.tmp 8) 3, type := 0, pos := "laws.go:627", after := #[{ on := 21, ground := Ground.guard }], guard := some (21, true) }) (v := ?_) rfl (by kernel_rfl) (by kernel_rfl) (by kernel_rfl) (fun _ _ _ h => h) (Or.inl ⟨by rfl, ?_⟩) (by assumption) ?_
                rotate_left
                · intro wq hSw
                  (try dsimp only at hSw)
                  go_simp
                  try with_reducible rfl
                try simp only [Act.put, List.setIfInBounds_toArray, List.set_cons_zero, List.set_cons_succ]
                refine wpAnyH_take (i := 23) (oi := { dst := some 84, op := Op.load 9 (Operand.tmp 83), type := 9, pos := "laws.go:627", after := #[{ on := 22, ground := Ground.data }, { on := 21, ground := Ground.guard }], guard := some (21, true) }) (v := ?_) rfl (by kernel_rfl) (by kernel_rfl) (by kernel_rfl) (fun _ _ _ h => h) (Or.inl ⟨by rfl, ?_⟩) (by assumption) ?_
                rotate_left
                · intro wq hSw
                  (try dsimp only at hSw)
                  go_simp
                  try with_reducible rfl
                try simp only [Act.put, List.setIfInBounds_toArray, List.set_cons_zero, List.set_cons_succ]
                refine wpAnyH_take (i := 24) (oi := { dst := some 85, op := Op.binOp BinOp.eql 9 (Operand.tmp 84) (Operand.const (Value.string { data := #[] })) 9, type := 4, pos := "laws.go:627", after := #[{ on := 23, ground := Ground.data }, { on := 21, ground := Ground.guard }], guard := some (21, true) }) (v := ?_) rfl (by kernel_rfl) (by kernel_rfl) (by kernel_rfl) (fun _ _ _ h => h) (Or.inl ⟨by rfl, ?_⟩) (by assumption) ?_
                rotate_left
                · intro wq hSw
                  (try dsimp only at hSw)
                  go_simp
                  try with_reducible rfl
                try simp only [Act.put, List.setIfInBounds_toArray, List.set_cons_zero, List.set_cons_succ]
                refine wpAnyH_take (i := 25) (oi := { dst := some 86, op := Op.pick (Operand.tmp 82) (Operand.tmp 85) (Operand.const (Value.bool false)), type := 4, pos := "laws.go:627", after := #[{ on := 21, ground := Ground.data }, { on := 24, ground := Ground.data }, { on := 17, ground := Ground.guard }], guard := some (17, false) }) (v := ?_) rfl (by kernel_rfl) (by kernel_rfl) (by kernel_rfl) (fun _ _ _ h => h) (Or.inl ⟨by rfl, ?_⟩) (by assumption) ?_
                rotate_left
                · intro wq hSw
                  (try dsimp only at hSw)
                  go_simp
                  try with_reducible rfl
                try simp only [Act.put, List.setIfInBounds_toArray, List.set_cons_zero, List.set_cons_succ]
                refine wpAnyH_take (i := 26) (oi := { dst := some 87, op := Op.pick (Operand.tmp 78) (Operand.const (Value.bool true)) (Operand.tmp 86), type := 4, pos := "laws.go:627", after := #[{ on := 17, ground := Ground.data }, { on := 25, ground := Ground.data }], guard := none }) (v := ?_) rfl (by kernel_rfl) (by kernel_rfl) (by kernel_rfl) (fun _ _ _ h => h) (Or.inl ⟨by rfl, ?_⟩) (by assumption) ?_
                rotate_left
                · intro wq hSw
                  (try dsimp only at hSw)
                  go_simp
                  try with_reducible rfl
                try simp only [Act.put, List.setIfInBounds_toArray, List.set_cons_zero, List.set_cons_succ]
                refine wpAnyH_take (i := 27) (oi := { dst := some 88, op := Op.move (Operand.tmp 87), type := 4, pos := "laws.go:627", after := #[{ on := 26, ground := Ground.data }, { on := 21, ground := Ground.chain }], guard := none }) (v := ?_) rfl (by kernel_rfl) (by kernel_rfl) (by kernel_rfl) (fun _ _ _ h => h) (Or.inl ⟨by rfl, ?_⟩) (by assumption) ?_
                rotate_left
                · intro wq hSw
                  (try dsimp only at hSw)
                  go_simp
                  try with_reducible rfl
                try simp only [Act.put, List.setIfInBounds_toArray, List.set_cons_zero, List.set_cons_succ]
                refine wpAnyH_take (i := 28) (oi := { dst := some 89, op := Op.fieldAddr 44 (Operand.tmp 8) 4, type := 0, pos := "laws.go:627", after := #[{ on := 27, ground := Ground.guard }], guard := some (27, false) }) (v := ?_) rfl (by kernel_rfl) (by kernel_rfl) (by kernel_rfl) (fun _ _ _ h => h) (Or.inl ⟨by rfl, ?_⟩) (by assumption) ?_
                rotate_left
                · intro wq hSw
                  (try dsimp only at hSw)
                  go_simp
                  try with_reducible rfl
                try simp only [Act.put, List.setIfInBounds_toArray, List.set_cons_zero, List.set_cons_succ]
                refine wpAnyH_take (i := 29) (oi := { dst := some 90, op := Op.load 3 (Operand.tmp 89), type := 3, pos := "laws.go:627", after := #[{ on := 28, ground := Ground.data }, { on := 27, ground := Ground.guard }], guard := some (27, false) }) (v := ?_) rfl (by kernel_rfl) (by kernel_rfl) (by kernel_rfl) (fun _ _ _ h => h) (Or.inl ⟨by rfl, ?_⟩) (by assumption) ?_
                rotate_left
                · intro wq hSw
                  (try dsimp only at hSw)
                  go_simp
                  try with_reducible rfl
                try simp only [Act.put, List.setIfInBounds_toArray, List.set_cons_zero, List.set_cons_succ]
                refine wpAnyH_take (i := 30) (oi := { dst := some 91, op := Op.fieldAddr 44 (Operand.tmp 6) 4, type := 0, pos := "laws.go:627", after := #[{ on := 27, ground := Ground.guard }], guard := some (27, false) }) (v := ?_) rfl (by kernel_rfl) (by kernel_rfl) (by kernel_rfl) (fun _ _ _ h => h) (Or.inl ⟨by rfl, ?_⟩) (by assumption) ?_
                rotate_left
                · intro wq hSw
                  (try dsimp only at hSw)
                  go_simp
                  try with_reducible rfl
                try simp only [Act.put, List.setIfInBounds_toArray, List.set_cons_zero, List.set_cons_succ]
                refine wpAnyH_take (i := 31) (oi := { dst := some 92, op := Op.load 3 (Operand.tmp 91), type := 3, pos := "laws.go:627", after := #[{ on := 30, ground := Ground.data }, { on := 27, ground := Ground.guard }], guard := some (27, false) }) (v := ?_) rfl (by kernel_rfl) (by kernel_rfl) (by kernel_rfl) (fun _ _ _ h => h) (Or.inl ⟨by rfl, ?_⟩) (by assumption) ?_
                rotate_left
                · intro wq hSw
                  (try dsimp only at hSw)
                  go_simp
                  try with_reducible rfl
                try simp only [Act.put, List.setIfInBounds_toArray, List.set_cons_zero, List.set_cons_succ]
                refine wpAnyH_take (i := 32) (oi := { dst := some 93, op := Op.binOp BinOp.gtr 3 (Operand.tmp 90) (Operand.tmp 92) 3, type := 4, pos := "laws.go:627", after := #[{ on := 29, ground := Ground.data }, { on := 31, ground := Ground.data }, { on := 27, ground := Ground.guard }], guard := some (27, false) }) (v := ?_) rfl (by kernel_rfl) (by kernel_rfl) (by kernel_rfl) (fun _ _ _ h => h) (Or.inl ⟨by rfl, ?_⟩) (by assumption) ?_
                rotate_left
                · intro wq hSw
                  (try dsimp only at hSw)
                  go_simp
                  try with_reducible rfl
                try simp only [Act.put, List.setIfInBounds_toArray, List.set_cons_zero, List.set_cons_succ]
                refine wpAnyH_take (i := 33) (oi := { dst := some 94, op := Op.pick (Operand.tmp 88) (Operand.const (Value.bool true)) (Operand.tmp 93), type := 4, pos := "laws.go:627", after := #[{ on := 27, ground := Ground.data }, { on := 32, ground := Ground.data }], guard := none }) (v := ?_) rfl (by kernel_rfl) (by kernel_rfl) (by kernel_rfl) (fun _ _ _ h => h) (Or.inl ⟨by rfl, ?_⟩) (by assumption) ?_
                rotate_left
                · intro wq hSw
                  (try dsimp only at hSw)
                  go_simp
                  try with_reducible rfl
                try simp only [Act.put, List.setIfInBounds_toArray, List.set_cons_zero, List.set_cons_succ]
                refine wpAnyH_done (by kernel_rfl) ?_ _
                have hBN : Below w3.heap.size w3 w5 := hbr.out.trans ((HBV.out.trans (HB5.out.mono HBV.out.size)).mono hzr)
                clear hHeld
                go_wp2
                go_roundw
                case rel => exact ⟨j + 1, by omega, by go_num, hBN⟩
                case measure => simp [intOf]; omega
              · obtain ⟨hoo, m1, m2, m3, m4, m5⟩ := pre_same HPRE.out
                cases hoo
          · go_wp2
            go_ret
            exact ⟨rfl, HBR.out⟩
    · have HNB : Hid (¬ ((nextT T arg rs).over = false ∧ (nextT T arg rs).name.size = 0)) := by
        rw [HN.out]; exact fun h => by cases h.1
      go_wp2_with fail
      go_loopw [7] (fun i wr => ∃ j : Nat, j ≤ rs.length ∧ i = .int .i64 j ∧ Hid (Below w3.heap.size w3 wr)) (fun i _ => rs.length - (intOf i).toNat)
      case atStart => exact ⟨0, Nat.zero_le _, rfl, Below.refl _ _⟩
      case round =>
        obtain ⟨j, hj, rfl, hbr⟩ := hrel
        have HBR : Hid (Below w.heap.size w wr) := HBW.out.trans (hbr.out.mono HBW.out.size)
        have hzr : w3.heap.size ≤ wr.heap.size := hbr.out.size
        by_cases hlt : j < rs.length
        · have HT3 : Hid (InsAt wr aT T) := ins_below HTW.out hbr.out
          have HR3 : Hid (ResAt wr aR (rs.take j)) := res_take (res_below HRW.out hbr.out) j
          have hjl : (rs.take j).length = j := by rw [List.length_take]; omega
          have e0 := (hbr.out.cell (p := ⟨X, 0, none⟩) hX3).trans q0
          have e1 := (hbr.out.cell (p := ⟨Y, 0, none⟩) hY3).trans q1
          have e2 := (hbr.out.cell (p := ⟨Y, 1, none⟩) hY3).trans q2
          have e3 := (hbr.out.cell (p := ⟨Y, 2, none⟩) hY3).trans q3
          have e4 := (hbr.out.cell (p := ⟨Y, 3, none⟩) hY3).trans q4
          have e5 := (hbr.out.cell (p := ⟨Y, 4, none⟩) hY3).trans q5
          have e6 := (hbr.out.cell (p := ⟨Y, 5, none⟩) hY3).trans q6
          obtain ⟨xo, xc, xt, xh, xn, xk, HX⟩ : ∃ o c t h n k, Hid (nextT T arg (rs.take j) = ⟨o, c, t, h, n, k⟩) := ⟨_, _, _, _, _, _, rfl⟩
          have HPRE : Hid (Pre ⟨xo, xc, xt, xh, xn, xk⟩ ⟨true, c, t, hh, n, k⟩) := by rw [Hid, ← HX.out, ← HN.out]; exact next_take (by omega) HNB.out
          have hjc : j ≤ cR := by omega
          have hXr : X < wr.heap.size := by omega
          have hYr : Y < wr.heap.size := by omega
          go_wp2_with fail
          have hXn1 : ¬ wr.heap.size = X := by omega
          have hXn2 : ¬ X = wr.heap.size := by omega
          have hYn1 : ¬ wr.heap.size = Y := by omega
          have hYn2 : ¬ Y = wr.heap.size := by omega
          have HAB : Hid (Below wr.heap.size wr (wr.alloc (.cells #[.bool false, .int .i64 0, .string ⟨#[]⟩, .bool false, .string ⟨#[]⟩, .int .i64 0] 44)).drew) := ((Below.refl _ _).alloc (Nat.le_refl _) _).drew
          have HBB : Hid (Below w.heap.size w (wr.alloc (.cells #[.bool false, .int .i64 0, .string ⟨#[]⟩, .bool false, .string ⟨#[]⟩, .int .i64 0] 44)).drew) := (HBR.out.alloc HBR.out.size _).drew
          go_region_held3 (fun u => u.cell? ⟨X, 0, none⟩ = some (.slice aT T.length cT)) (go_keep) (first | (go_at_call 17; refine (c17j aT cT T arg aR cR rs j wr.drew hj (three_take H3.out j) (ins_below HT3.out ((Below.refl _ _).drew)) (res_below HR3.out ((Below.refl _ _).drew)) (shapes_below HSH.out (HBR.out.drew)) (max_below HMX.out (HBR.out.drew)) HX.out).mono ?_; rintro e w4 ⟨rfl, hb4⟩; have HB4 : Hid (Below wr.heap.size wr w4) := ((Below.refl _ _).drew).trans hb4; have p0 := (HB4.out.cell (p := ⟨X, 0, none⟩) hXr).trans e0; have hX4 : X < w4.heap.size := (Nat.lt_of_lt_of_le hXr HB4.out.size)) | (go_at_call 17; refine (c17j aT cT T arg aR cR rs j (wr.alloc (.cells #[.bool false, .int .i64 0, .string ⟨#[]⟩, .bool false, .string ⟨#[]⟩, .int .i64 0] 44)).drew hj (three_take H3.out j) (ins_below HT3.out HAB.out) (res_below HR3.out HAB.out) (shapes_below HSH.out HBB.out) (max_below HMX.out HBB.out) HX.out).mono ?_; rintro e w4 ⟨rfl, hb4⟩; have HB4 : Hid (Below wr.heap.size wr w4) := HAB.out.trans (hb4.mono (size_le2 _ _)); have p0 := (HB4.out.cell (p := ⟨X, 0, none⟩) hXr).trans e0; have hX4 : X < w4.heap.size := (Nat.lt_of_lt_of_le hXr HB4.out.size); obtain ⟨⟨z0, z1, z2, z3, z4, z5⟩, zf0, zf1, zf2, zf3, zf4, zf5⟩ := z44 hb4))
          · go_wp2_with fail
            have hTA : TurnAt wr (w4.alloc (.cells #[.bool xo, .int .i64 xc, .string xt, .bool xh, .string xn, .int .i64 xk] 44)) w4.heap.size xo xc xt xh xn xk := turn_new xo xc xt xh xn xk HB4.out
            obtain ⟨hBV, hZ, v0, v1, v2, v3, v4, v5⟩ := hTA
            have HBV : Hid (Below wr.heap.size wr (w4.alloc (.cells #[.bool xo, .int .i64 xc, .string xt, .bool xh, .string xn, .int .i64 xk] 44))) := hBV
            clear hBV
            generalize (w4.alloc (.cells #[.bool xo, .int .i64 xc, .string xt, .bool xh, .string xn, .int .i64 xk] 44)) = V at *
            generalize hZe : w4.heap.size = Z at v0 v1 v2 v3 v4 v5 hZ ⊢
            clear hZe
            have r0 := (HBV.out.cell (p := ⟨X, 0, none⟩) hXr).trans e0
            have r1 := (HBV.out.cell (p := ⟨Y, 0, none⟩) hYr).trans e1
            have r2 := (HBV.out.cell (p := ⟨Y, 1, none⟩) hYr).trans e2
            have r3 := (HBV.out.cell (p := ⟨Y, 2, none⟩) hYr).trans e3
            have r4 := (HBV.out.cell (p := ⟨Y, 3, none⟩) hYr).trans e4
            have r5 := (HBV.out.cell (p := ⟨Y, 4, none⟩) hYr).trans e5
            have r6 := (HBV.out.cell (p := ⟨Y, 5, none⟩) hYr).trans e6
            have hXV : X < V.heap.size := Nat.lt_of_lt_of_le hXr HBV.out.size
            have hYV : Y < V.heap.size := Nat.lt_of_lt_of_le hYr HBV.out.size
            have HTV : Hid (InsAt V.drew aT T) := ins_below (ins_below HT3.out HBV.out) ((Below.refl _ _).drew)
            have HRV : Hid (ResAt V.drew aR (rs.take j)) := res_below (res_below HR3.out HBV.out) ((Below.refl _ _).drew)
            clear HB4
            cases xo
            · have hk0 : xk ≤ k := HPRE.out.steps
              have hk1 : decide (k < xk) = false := decide_eq_false (by omega)
              have hn1 : 1 ≤ xn.size := HPRE.out.name rfl
              have hne1 : xn.toList.isEmpty = false := by rw [ByteArray.toList_eq]; exact str_isEmpty xn hn1
              refine wp_region_held_drew (S := (fun u => u.cell? ⟨X, 0, none⟩ = some (.slice aT T.length cT) ∧ u.cell? ⟨Y, 0, none⟩ = some (.bool true) ∧ u.cell? ⟨Y, 1, none⟩ = some (.int .i64 c) ∧ u.cell? ⟨Y, 2, none⟩ = some (.string t) ∧ u.cell? ⟨Y, 3, none⟩ = some (.bool hh) ∧ u.cell? ⟨Y, 4, none⟩ = some (.string n) ∧ u.cell? ⟨Y, 5, none⟩ = some (.int .i64 k) ∧ u.cell? ⟨Z, 0, none⟩ = some (.bool false) ∧ u.cell? ⟨Z, 1, none⟩ = some (.int .i64 xc) ∧ u.cell? ⟨Z, 2, none⟩ = some (.string xt) ∧ u.cell? ⟨Z, 3, none⟩ = some (.bool xh) ∧ u.cell? ⟨Z, 4, none⟩ = some (.string xn) ∧ u.cell? ⟨Z, 5, none⟩ = some (.int .i64 xk))) (by kernel_rfl) ?_ (fun hHeld => ?_)
              · ((try dsimp only); go_keep)
              refine wpAnyH_take (i := 0) (oi := { dst := some 61, op := Op.load 44 (Operand.tmp 8), type := 44, pos := "laws.go:627", after := #[], guard := none }) (v := ?_) rfl (by kernel_rfl) (by kernel_rfl) (by kernel_rfl) (fun _ _ _ h => h) (Or.inl ⟨by rfl, ?_⟩) (by assumption) ?_
              rotate_left
              · intro wq hSw
                (try dsimp only at hSw)
                go_simp
                try with_reducible rfl
              try simp only [Act.put, List.setIfInBounds_toArray, List.set_cons_zero, List.set_cons_succ]
              refine wpAnyH_take (i := 1) (oi := { dst := some 62, op := Op.load 29 (Operand.tmp 3), type := 29, pos := "laws.go:627", after := #[], guard := none }) (v := ?_) rfl (by kernel_rfl) (by kernel_rfl) (by kernel_rfl) (fun _ _ _ h => h) (Or.inl ⟨by rfl, ?_⟩) (by assumption) ?_
              rotate_left
              · intro wq hSw
                (try dsimp only at hSw)
                go_simp
                try with_reducible rfl
              try simp only [Act.put, List.setIfInBounds_toArray, List.set_cons_zero, List.set_cons_succ]
              refine wpAnyH_take (i := 2) (oi := { dst := some 63, op := Op.move (Operand.tmp 4), type := 9, pos := "laws.go:627", after := #[], guard := none }) (v := ?_) rfl (by kernel_rfl) (by kernel_rfl) (by kernel_rfl) (fun _ _ _ h => h) (Or.inl ⟨by rfl, ?_⟩) (by assumption) ?_
              rotate_left
              · intro wq hSw
                (try dsimp only at hSw)
                go_simp
                try with_reducible rfl
              try simp only [Act.put, List.setIfInBounds_toArray, List.set_cons_zero, List.set_cons_succ]
              refine wpAnyH_take (i := 3) (oi := { dst := some 64, op := Op.move (Operand.tmp 5), type := 38, pos := "laws.go:627", after := #[], guard := none }) (v := ?_) rfl (by kernel_rfl) (by kernel_rfl) (by kernel_rfl) (fun _ _ _ h => h) (Or.inl ⟨by rfl, ?_⟩) (by assumption) ?_
              rotate_left
              · intro wq hSw
                (try dsimp only at hSw)
                go_simp
                try with_reducible rfl
              try simp only [Act.put, List.setIfInBounds_toArray, List.set_cons_zero, List.set_cons_succ]
              refine wpAnyH_take (i := 4) (oi := { dst := some 65, op := Op.move (Operand.tmp 7), type := 3, pos := "laws.go:627", after := #[], guard := none }) (v := ?_) rfl (by kernel_rfl) (by kernel_rfl) (by kernel_rfl) (fun _ _ _ h => h) (Or.inl ⟨by rfl, ?_⟩) (by assumption) ?_
              rotate_left
              · intro wq hSw
                (try dsimp only at hSw)
                go_simp
                try with_reducible rfl
              try simp only [Act.put, List.setIfInBounds_toArray, List.set_cons_zero, List.set_cons_succ]
              refine wpAnyH_take (i := 5) (oi := { dst := some 66, op := Op.slice 38 (Operand.tmp 64) none (some (Operand.tmp 65)) none, type := 38, pos := "laws.go:627", after := #[{ on := 3, ground := Ground.data }, { on := 4, ground := Ground.data }], guard := none }) (v := ?_) rfl (by kernel_rfl) (by kernel_rfl) (by kernel_rfl) (fun _ _ _ h => h) (Or.inl ⟨by rfl, ?_⟩) (by assumption) ?_
              rotate_left
              · intro wq hSw
                (try dsimp only at hSw)
                go_simp
                try with_reducible rfl
              try simp only [Act.put, List.setIfInBounds_toArray, List.set_cons_zero, List.set_cons_succ]
              refine wpAnyH_ready (rs := [6]) (by kernel_rfl) (by simp) ?_
              refine AllReadyH.cons (o := { dst := some 67, op := Op.call { callee := Callee.value (Operand.func 18), args := #[Operand.tmp 62, Operand.tmp 63, Operand.tmp 66], argTypes := #[29, 9, 38] }, type := 44, pos := "laws.go:627", after := #[{ on := 1, ground := Ground.data }, { on := 2, ground := Ground.data }, { on := 5, ground := Ground.data }], guard := none }) rfl (fun K hK => ?_) AllReadyH.nil
              go_simp
              refine (c18j aT cT T arg aR cR rs j V.drew hj (three_take H3.out j) HTV.out HRV.out HX.out).mono ?_
              rintro e w5 ⟨rfl, hb5⟩
              have HB5 : Hid (Below V.heap.size V w5) := ((Below.refl _ _).drew).trans hb5
              clear hb5
              have s0 := (HB5.out.cell (p := ⟨X, 0, none⟩) hXV).trans r0
              have s1 := (HB5.out.cell (p := ⟨Y, 0, none⟩) hYV).trans r1
              have s2 := (HB5.out.cell (p := ⟨Y, 1, none⟩) hYV).trans r2
              have s3 := (HB5.out.cell (p := ⟨Y, 2, none⟩) hYV).trans r3
              have s4 := (HB5.out.cell (p := ⟨Y, 3, none⟩) hYV).trans r4
              have s5 := (HB5.out.cell (p := ⟨Y, 4, none⟩) hYV).trans r5
              have s6 := (HB5.out.cell (p := ⟨Y, 5, none⟩) hYV).trans r6
              have y0 := (HB5.out.cell (p := ⟨Z, 0, none⟩) hZ).trans v0
              have y1 := (HB5.out.cell (p := ⟨Z, 1, none⟩) hZ).trans v1
              have y2 := (HB5.out.cell (p := ⟨Z, 2, none⟩) hZ).trans v2
              have y3 := (HB5.out.cell (p := ⟨Z, 3, none⟩) hZ).trans v3
              have y4 := (HB5.out.cell (p := ⟨Z, 4, none⟩) hZ).trans v4
              have y5 := (HB5.out.cell (p := ⟨Z, 5, none⟩) hZ).trans v5
              go_wp2_with fail
              clear hHeld
              refine hK.out _ _ ?_ (fun hHeld => ?_)
              · ((try dsimp only); go_keep)
              clear hK K
              try simp only [Act.put, List.setIfInBounds_toArray, List.set_cons_zero, List.set_cons_succ]
              refine wpAnyH_take (i := 7) (oi := { dst := some 68, op := Op.binOp BinOp.neq 44 (Operand.tmp 61) (Operand.tmp 67) 44, type := 4, pos := "laws.go:627", after := #[{ on := 0, ground := Ground.data }, { on := 6, ground := Ground.data }], guard := none }) (v := ?_) rfl (by kernel_rfl) (by kernel_rfl) (by kernel_rfl) (fun _ _ _ h => h) (Or.inl ⟨by rfl, ?_⟩) (by assumption) ?_
              rotate_left
              · intro wq hSw
                (try dsimp only at hSw)
                go_simp
                try with_reducible rfl
              try simp only [Act.put, List.setIfInBounds_toArray, List.set_cons_zero, List.set_cons_succ]
              refine wpAnyH_take (i := 8) (oi := { dst := some 69, op := Op.move (Operand.tmp 68), type := 4, pos := "laws.go:627", after := #[{ on := 7, ground := Ground.data }, { on := 6, ground := Ground.chain }], guard := none }) (v := ?_) rfl (by kernel_rfl) (by kernel_rfl) (by kernel_rfl) (fun _ _ _ h => h) (Or.inl ⟨by rfl, ?_⟩) (by assumption) ?_
              rotate_left
              · intro wq hSw
                (try dsimp only at hSw)
                go_simp
                try with_reducible rfl
              try simp only [Act.put, List.setIfInBounds_toArray, List.set_cons_zero, List.set_cons_succ]
              refine wpAnyH_take (i := 9) (oi := { dst := some 70, op := Op.fieldAddr 44 (Operand.tmp 8) 0, type := 0, pos := "laws.go:627", after := #[{ on := 8, ground := Ground.guard }], guard := some (8, false) }) (v := ?_) rfl (by kernel_rfl) (by kernel_rfl) (by kernel_rfl) (fun _ _ _ h => h) (Or.inl ⟨by rfl, ?_⟩) (by assumption) ?_
              rotate_left
              · intro wq hSw
                (try dsimp only at hSw)
                go_simp
                try with_reducible rfl
              try simp only [Act.put, List.setIfInBounds_toArray, List.set_cons_zero, List.set_cons_succ]
              refine wpAnyH_take (i := 10) (oi := { dst := some 71, op := Op.load 4 (Operand.tmp 70), type := 4, pos := "laws.go:627", after := #[{ on := 9, ground := Ground.data }, { on := 8, ground := Ground.guard }], guard := some (8, false) }) (v := ?_) rfl (by kernel_rfl) (by kernel_rfl) (by kernel_rfl) (fun _ _ _ h => h) (Or.inl ⟨by rfl, ?_⟩) (by assumption) ?_
              rotate_left
              · intro wq hSw
                (try dsimp only at hSw)
                go_simp
                try with_reducible rfl
              try simp only [Act.put, List.setIfInBounds_toArray, List.set_cons_zero, List.set_cons_succ]
              refine wpAnyH_take (i := 11) (oi := { dst := some 72, op := Op.move (Operand.tmp 71), type := 4, pos := "laws.go:627", after := #[{ on := 10, ground := Ground.data }, { on := 8, ground := Ground.chain }, { on := 8, ground := Ground.guard }], guard := some (8, false) }) (v := ?_) rfl (by kernel_rfl) (by kernel_rfl) (by kernel_rfl) (fun _ _ _ h => h) (Or.inl ⟨by rfl, ?_⟩) (by assumption) ?_
              rotate_left
              · intro wq hSw
                (try dsimp only at hSw)
                go_simp
                try with_reducible rfl
              try simp only [Act.put, List.setIfInBounds_toArray, List.set_cons_zero, List.set_cons_succ]
              refine wpAnyH_take (i := 12) (oi := { dst := some 73, op := Op.load 44 (Operand.tmp 8), type := 44, pos := "laws.go:627", after := #[{ on := 11, ground := Ground.guard }], guard := some (11, true) }) (v := undef) rfl (by kernel_rfl) (by kernel_rfl) (by kernel_rfl) (fun _ _ _ h => h) (Or.inr ⟨by rfl, rfl⟩) (by assumption) ?_
              try simp only [Act.put, List.setIfInBounds_toArray, List.set_cons_zero, List.set_cons_succ]
              refine wpAnyH_take (i := 13) (oi := { dst := some 74, op := Op.load 44 (Operand.tmp 6), type := 44, pos := "laws.go:627", after := #[{ on := 11, ground := Ground.guard }], guard := some (11, true) }) (v := undef) rfl (by kernel_rfl) (by kernel_rfl) (by kernel_rfl) (fun _ _ _ h => h) (Or.inr ⟨by rfl, rfl⟩) (by assumption) ?_
              try simp only [Act.put, List.setIfInBounds_toArray, List.set_cons_zero, List.set_cons_succ]
              refine wpAnyH_take (i := 14) (oi := { dst := some 75, op := Op.binOp BinOp.neq 44 (Operand.tmp 73) (Operand.tmp 74) 44, type := 4, pos := "laws.go:627", after := #[{ on := 12, ground := Ground.data }, { on := 13, ground := Ground.data }, { on := 11, ground := Ground.guard }], guard := some (11, true) }) (v := undef) rfl (by kernel_rfl) (by kernel_rfl) (by kernel_rfl) (fun _ _ _ h => h) (Or.inr ⟨by rfl, rfl⟩) (by assumption) ?_
              try simp only [Act.put, List.setIfInBounds_toArray, List.set_cons_zero, List.set_cons_succ]
              refine wpAnyH_take (i := 15) (oi := { dst := some 76, op := Op.pick (Operand.tmp 72) (Operand.tmp 75) (Operand.const (Value.bool false)), type := 4, pos := "laws.go:627", after := #[{ on := 11, ground := Ground.data }, { on := 14, ground := Ground.data }, { on := 8, ground := Ground.guard }], guard := some (8, false) }) (v := ?_) rfl (by kernel_rfl) (by kernel_rfl) (by kernel_rfl) (fun _ _ _ h => h) (Or.inl ⟨by rfl, ?_⟩) (by assumption) ?_
              rotate_left
              · intro wq hSw
                (try dsimp only at hSw)
                go_simp
                try with_reducible rfl
              try simp only [Act.put, List.setIfInBounds_toArray, List.set_cons_zero, List.set_cons_succ]
              refine wpAnyH_take (i := 16) (oi := { dst := some 77, op := Op.pick (Operand.tmp 69) (Operand.const (Value.bool true)) (Operand.tmp 76), type := 4, pos := "laws.go:627", after := #[{ on := 8, ground := Ground.data }, { on := 15, ground := Ground.data }], guard := none }) (v := ?_) rfl (by kernel_rfl) (by kernel_rfl) (by kernel_rfl) (fun _ _ _ h => h) (Or.inl ⟨by rfl, ?_⟩) (by assumption) ?_
              rotate_left
              · intro wq hSw
                (try dsimp only at hSw)
                go_simp
                try with_reducible rfl
              try simp only [Act.put, List.setIfInBounds_toArray, List.set_cons_zero, List.set_cons_succ]
              refine wpAnyH_take (i := 17) (oi := { dst := some 78, op := Op.move (Operand.tmp 77), type := 4, pos := "laws.go:627", after := #[{ on := 16, ground := Ground.data }, { on := 11, ground := Ground.chain }], guard := none }) (v := ?_) rfl (by kernel_rfl) (by kernel_rfl) (by kernel_rfl) (fun _ _ _ h => h) (Or.inl ⟨by rfl, ?_⟩) (by assumption) ?_
              rotate_left
              · intro wq hSw
                (try dsimp only at hSw)
                go_simp
                try with_reducible rfl
              try simp only [Act.put, List.setIfInBounds_toArray, List.set_cons_zero, List.set_cons_succ]
              refine wpAnyH_take (i := 18) (oi := { dst := some 79, op := Op.fieldAddr 44 (Operand.tmp 8) 0, type := 0, pos := "laws.go:627", after := #[{ on := 17, ground := Ground.guard }], guard := some (17, false) }) (v := ?_) rfl (by kernel_rfl) (by kernel_rfl) (by kernel_rfl) (fun _ _ _ h => h) (Or.inl ⟨by rfl, ?_⟩) (by assumption) ?_
              rotate_left
              · intro wq hSw
                (try dsimp only at hSw)
                go_simp
                try with_reducible rfl
              try simp only [Act.put, List.setIfInBounds_toArray, List.set_cons_zero, List.set_cons_succ]
              refine wpAnyH_take (i := 19) (oi := { dst := some 80, op := Op.load 4 (Operand.tmp 79), type := 4, pos := "laws.go:627", after := #[{ on := 18, ground := Ground.data }, { on := 17, ground := Ground.guard }], guard := some (17, false) }) (v := ?_) rfl (by kernel_rfl) (by kernel_rfl) (by kernel_rfl) (fun _ _ _ h => h) (Or.inl ⟨by rfl, ?_⟩) (by assumption) ?_
              rotate_left
              · intro wq hSw
                (try dsimp only at hSw)
                go_simp
                try with_reducible rfl
              try simp only [Act.put, List.setIfInBounds_toArray, List.set_cons_zero, List.set_cons_succ]
              refine wpAnyH_take (i := 20) (oi := { dst := some 81, op := Op.unOp UnOp.not 4 (Operand.tmp 80), type := 4, pos := "laws.go:627", after := #[{ on := 19, ground := Ground.data }, { on := 17, ground := Ground.guard }], guard := some (17, false) }) (v := ?_) rfl (by kernel_rfl) (by kernel_rfl) (by kernel_rfl) (fun _ _ _ h => h) (Or.inl ⟨by rfl, ?_⟩) (by assumption) ?_
              rotate_left
              · intro wq hSw
                (try dsimp only at hSw)
                go_simp
                try with_reducible rfl
              try simp only [Act.put, List.setIfInBounds_toArray, List.set_cons_zero, List.set_cons_succ]
              refine wpAnyH_take (i := 21) (oi := { dst := some 82, op := Op.move (Operand.tmp 81), type := 4, pos := "laws.go:627", after := #[{ on := 20, ground := Ground.data }, { on := 17, ground := Ground.chain }, { on := 17, ground := Ground.guard }], guard := some (17, false) }) (v := ?_) rfl (by kernel_rfl) (by kernel_rfl) (by kernel_rfl) (fun _ _ _ h => h) (Or.inl ⟨by rfl, ?_⟩) (by assumption) ?_
              rotate_left
              · intro wq hSw
                (try dsimp only at hSw)
                go_simp
                try with_reducible rfl
              try simp only [Act.put, List.setIfInBounds_toArray, List.set_cons_zero, List.set_cons_succ]
              refine wpAnyH_take (i := 22) (oi := { dst := some 83, op := Op.fieldAddr 44 (Operand.tmp 8) 3, type := 0, pos := "laws.go:627", after := #[{ on := 21, ground := Ground.guard }], guard := some (21, true) }) (v := ?_) rfl (by kernel_rfl) (by kernel_rfl) (by kernel_rfl) (fun _ _ _ h => h) (Or.inl ⟨by rfl, ?_⟩) (by assumption) ?_
              rotate_left
              · intro wq hSw
                (try dsimp only at hSw)
                go_simp
                try with_reducible rfl
              try simp only [Act.put, List.setIfInBounds_toArray, List.set_cons_zero, List.set_cons_succ]
              refine wpAnyH_take (i := 23) (oi := { dst := some 84, op := Op.load 9 (Operand.tmp 83), type := 9, pos := "laws.go:627", after := #[{ on := 22, ground := Ground.data }, { on := 21, ground := Ground.guard }], guard := some (21, true) }) (v := ?_) rfl (by kernel_rfl) (by kernel_rfl) (by kernel_rfl) (fun _ _ _ h => h) (Or.inl ⟨by rfl, ?_⟩) (by assumption) ?_
              rotate_left
              · intro wq hSw
                (try dsimp only at hSw)
                go_simp
                try with_reducible rfl
              try simp only [Act.put, List.setIfInBounds_toArray, List.set_cons_zero, List.set_cons_succ]
              refine wpAnyH_take (i := 24) (oi := { dst := some 85, op := Op.binOp BinOp.eql 9 (Operand.tmp 84) (Operand.const (Value.string { data := #[] })) 9, type := 4, pos := "laws.go:627", after := #[{ on := 23, ground := Ground.data }, { on := 21, ground := Ground.guard }], guard := some (21, true) }) (v := ?_) rfl (by kernel_rfl) (by kernel_rfl) (by kernel_rfl) (fun _ _ _ h => h) (Or.inl ⟨by rfl, ?_⟩) (by assumption) ?_
              rotate_left
              · intro wq hSw
                (try dsimp only at hSw)
                go_simp
                try with_reducible rfl
              try simp only [Act.put, List.setIfInBounds_toArray, List.set_cons_zero, List.set_cons_succ]
              refine wpAnyH_take (i := 25) (oi := { dst := some 86, op := Op.pick (Operand.tmp 82) (Operand.tmp 85) (Operand.const (Value.bool false)), type := 4, pos := "laws.go:627", after := #[{ on := 21, ground := Ground.data }, { on := 24, ground := Ground.data }, { on := 17, ground := Ground.guard }], guard := some (17, false) }) (v := ?_) rfl (by kernel_rfl) (by kernel_rfl) (by kernel_rfl) (fun _ _ _ h => h) (Or.inl ⟨by rfl, ?_⟩) (by assumption) ?_
              rotate_left
              · intro wq hSw
                (try dsimp only at hSw)
                go_simp
                try with_reducible rfl
              try simp only [Act.put, List.setIfInBounds_toArray, List.set_cons_zero, List.set_cons_succ]
              refine wpAnyH_take (i := 26) (oi := { dst := some 87, op := Op.pick (Operand.tmp 78) (Operand.const (Value.bool true)) (Operand.tmp 86), type := 4, pos := "laws.go:627", after := #[{ on := 17, ground := Ground.data }, { on := 25, ground := Ground.data }], guard := none }) (v := ?_) rfl (by kernel_rfl) (by kernel_rfl) (by kernel_rfl) (fun _ _ _ h => h) (Or.inl ⟨by rfl, ?_⟩) (by assumption) ?_
              rotate_left
              · intro wq hSw
                (try dsimp only at hSw)
                go_simp
                try with_reducible rfl
              try simp only [Act.put, List.setIfInBounds_toArray, List.set_cons_zero, List.set_cons_succ]
              refine wpAnyH_take (i := 27) (oi := { dst := some 88, op := Op.move (Operand.tmp 87), type := 4, pos := "laws.go:627", after := #[{ on := 26, ground := Ground.data }, { on := 21, ground := Ground.chain }], guard := none }) (v := ?_) rfl (by kernel_rfl) (by kernel_rfl) (by kernel_rfl) (fun _ _ _ h => h) (Or.inl ⟨by rfl, ?_⟩) (by assumption) ?_
              rotate_left
              · intro wq hSw
                (try dsimp only at hSw)
                go_simp
                try with_reducible rfl
              try simp only [Act.put, List.setIfInBounds_toArray, List.set_cons_zero, List.set_cons_succ]
              refine wpAnyH_take (i := 28) (oi := { dst := some 89, op := Op.fieldAddr 44 (Operand.tmp 8) 4, type := 0, pos := "laws.go:627", after := #[{ on := 27, ground := Ground.guard }], guard := some (27, false) }) (v := ?_) rfl (by kernel_rfl) (by kernel_rfl) (by kernel_rfl) (fun _ _ _ h => h) (Or.inl ⟨by rfl, ?_⟩) (by assumption) ?_
              rotate_left
              · intro wq hSw
                (try dsimp only at hSw)
                go_simp
                try with_reducible rfl
              try simp only [Act.put, List.setIfInBounds_toArray, List.set_cons_zero, List.set_cons_succ]
              refine wpAnyH_take (i := 29) (oi := { dst := some 90, op := Op.load 3 (Operand.tmp 89), type := 3, pos := "laws.go:627", after := #[{ on := 28, ground := Ground.data }, { on := 27, ground := Ground.guard }], guard := some (27, false) }) (v := ?_) rfl (by kernel_rfl) (by kernel_rfl) (by kernel_rfl) (fun _ _ _ h => h) (Or.inl ⟨by rfl, ?_⟩) (by assumption) ?_
              rotate_left
              · intro wq hSw
                (try dsimp only at hSw)
                go_simp
                try with_reducible rfl
              try simp only [Act.put, List.setIfInBounds_toArray, List.set_cons_zero, List.set_cons_succ]
              refine wpAnyH_take (i := 30) (oi := { dst := some 91, op := Op.fieldAddr 44 (Operand.tmp 6) 4, type := 0, pos := "laws.go:627", after := #[{ on := 27, ground := Ground.guard }], guard := some (27, false) }) (v := ?_) rfl (by kernel_rfl) (by kernel_rfl) (by kernel_rfl) (fun _ _ _ h => h) (Or.inl ⟨by rfl, ?_⟩) (by assumption) ?_
              rotate_left
              · intro wq hSw
                (try dsimp only at hSw)
                go_simp
                try with_reducible rfl
              try simp only [Act.put, List.setIfInBounds_toArray, List.set_cons_zero, List.set_cons_succ]
              refine wpAnyH_take (i := 31) (oi := { dst := some 92, op := Op.load 3 (Operand.tmp 91), type := 3, pos := "laws.go:627", after := #[{ on := 30, ground := Ground.data }, { on := 27, ground := Ground.guard }], guard := some (27, false) }) (v := ?_) rfl (by kernel_rfl) (by kernel_rfl) (by kernel_rfl) (fun _ _ _ h => h) (Or.inl ⟨by rfl, ?_⟩) (by assumption) ?_
              rotate_left
              · intro wq hSw
                (try dsimp only at hSw)
                go_simp
                try with_reducible rfl
              try simp only [Act.put, List.setIfInBounds_toArray, List.set_cons_zero, List.set_cons_succ]
              refine wpAnyH_take (i := 32) (oi := { dst := some 93, op := Op.binOp BinOp.gtr 3 (Operand.tmp 90) (Operand.tmp 92) 3, type := 4, pos := "laws.go:627", after := #[{ on := 29, ground := Ground.data }, { on := 31, ground := Ground.data }, { on := 27, ground := Ground.guard }], guard := some (27, false) }) (v := ?_) rfl (by kernel_rfl) (by kernel_rfl) (by kernel_rfl) (fun _ _ _ h => h) (Or.inl ⟨by rfl, ?_⟩) (by assumption) ?_
              rotate_left
              · intro wq hSw
                (try dsimp only at hSw)
                go_simp
                try with_reducible rfl
              try simp only [Act.put, List.setIfInBounds_toArray, List.set_cons_zero, List.set_cons_succ]
              refine wpAnyH_take (i := 33) (oi := { dst := some 94, op := Op.pick (Operand.tmp 88) (Operand.const (Value.bool true)) (Operand.tmp 93), type := 4, pos := "laws.go:627", after := #[{ on := 27, ground := Ground.data }, { on := 32, ground := Ground.data }], guard := none }) (v := ?_) rfl (by kernel_rfl) (by kernel_rfl) (by kernel_rfl) (fun _ _ _ h => h) (Or.inl ⟨by rfl, ?_⟩) (by assumption) ?_
              rotate_left
              · intro wq hSw
                (try dsimp only at hSw)
                go_simp
                try with_reducible rfl
              try simp only [Act.put, List.setIfInBounds_toArray, List.set_cons_zero, List.set_cons_succ]
              refine wpAnyH_done (by kernel_rfl) ?_ _
              have hBN : Below w3.heap.size w3 w5 := hbr.out.trans ((HBV.out.trans (HB5.out.mono HBV.out.size)).mono hzr)
              clear hHeld
              go_wp2
              go_roundw
              case rel => exact ⟨j + 1, by omega, by go_num, hBN⟩
              case measure => simp [intOf]; omega
            · obtain ⟨hoo, m1, m2, m3, m4, m5⟩ := pre_same HPRE.out
              clear hoo
              subst m1 m2 m3 m4 m5
              have hk1 : decide (xk < xk) = false := decide_eq_false (by omega)
              refine wp_region_held_drew (S := (fun u => u.cell? ⟨X, 0, none⟩ = some (.slice aT T.length cT) ∧ u.cell? ⟨Y, 0, none⟩ = some (.bool true) ∧ u.cell? ⟨Y, 1, none⟩ = some (.int .i64 xc) ∧ u.cell? ⟨Y, 2, none⟩ = some (.string xt) ∧ u.cell? ⟨Y, 3, none⟩ = some (.bool xh) ∧ u.cell? ⟨Y, 4, none⟩ = some (.string xn) ∧ u.cell? ⟨Y, 5, none⟩ = some (.int .i64 xk) ∧ u.cell? ⟨Z, 0, none⟩ = some (.bool true) ∧ u.cell? ⟨Z, 1, none⟩ = some (.int .i64 xc) ∧ u.cell? ⟨Z, 2, none⟩ = some (.string xt) ∧ u.cell? ⟨Z, 3, none⟩ = some (.bool xh) ∧ u.cell? ⟨Z, 4, none⟩ = some (.string xn) ∧ u.cell? ⟨Z, 5, none⟩ = some (.int .i64 xk))) (by kernel_rfl) ?_ (fun hHeld => ?_)
              · ((try dsimp only); go_keep)
              refine wpAnyH_take (i := 0) (oi := { dst := some 61, op := Op.load 44 (Operand.tmp 8), type := 44, pos := "laws.go:627", after := #[], guard := none }) (v := ?_) rfl (by kernel_rfl) (by kernel_rfl) (by kernel_rfl) (fun _ _ _ h => h) (Or.inl ⟨by rfl, ?_⟩) (by assumption) ?_
              rotate_left
              · intro wq hSw
                (try dsimp only at hSw)
                go_simp
                try with_reducible rfl
              try simp only [Act.put, List.setIfInBounds_toArray, List.set_cons_zero, List.set_cons_succ]
              refine wpAnyH_take (i := 1) (oi := { dst := some 62, op := Op.load 29 (Operand.tmp 3), type := 29, pos := "laws.go:627", after := #[], guard := none }) (v := ?_) rfl (by kernel_rfl) (by kernel_rfl) (by kernel_rfl) (fun _ _ _ h => h) (Or.inl ⟨by rfl, ?_⟩) (by assumption) ?_
              rotate_left
              · intro wq hSw
                (try dsimp only at hSw)
                go_simp
                try with_reducible rfl
              try simp only [Act.put, List.setIfInBounds_toArray, List.set_cons_zero, List.set_cons_succ]
              refine wpAnyH_take (i := 2) (oi := { dst := some 63, op := Op.move (Operand.tmp 4), type := 9, pos := "laws.go:627", after := #[], guard := none }) (v := ?_) rfl (by kernel_rfl) (by kernel_rfl) (by kernel_rfl) (fun _ _ _ h => h) (Or.inl ⟨by rfl, ?_⟩) (by assumption) ?_
              rotate_left
              · intro wq hSw
                (try dsimp only at hSw)
                go_simp
                try with_reducible rfl
              try simp only [Act.put, List.setIfInBounds_toArray, List.set_cons_zero, List.set_cons_succ]
              refine wpAnyH_take (i := 3) (oi := { dst := some 64, op := Op.move (Operand.tmp 5), type := 38, pos := "laws.go:627", after := #[], guard := none }) (v := ?_) rfl (by kernel_rfl) (by kernel_rfl) (by kernel_rfl) (fun _ _ _ h => h) (Or.inl ⟨by rfl, ?_⟩) (by assumption) ?_
              rotate_left
              · intro wq hSw
                (try dsimp only at hSw)
                go_simp
                try with_reducible rfl
              try simp only [Act.put, List.setIfInBounds_toArray, List.set_cons_zero, List.set_cons_succ]
              refine wpAnyH_take (i := 4) (oi := { dst := some 65, op := Op.move (Operand.tmp 7), type := 3, pos := "laws.go:627", after := #[], guard := none }) (v := ?_) rfl (by kernel_rfl) (by kernel_rfl) (by kernel_rfl) (fun _ _ _ h => h) (Or.inl ⟨by rfl, ?_⟩) (by assumption) ?_
              rotate_left
              · intro wq hSw
                (try dsimp only at hSw)
                go_simp
                try with_reducible rfl
              try simp only [Act.put, List.setIfInBounds_toArray, List.set_cons_zero, List.set_cons_succ]
              refine wpAnyH_take (i := 5) (oi := { dst := some 66, op := Op.slice 38 (Operand.tmp 64) none (some (Operand.tmp 65)) none, type := 38, pos := "laws.go:627", after := #[{ on := 3, ground := Ground.data }, { on := 4, ground := Ground.data }], guard := none }) (v := ?_) rfl (by kernel_rfl) (by kernel_rfl) (by kernel_rfl) (fun _ _ _ h => h) (Or.inl ⟨by rfl, ?_⟩) (by assumption) ?_
              rotate_left
              · intro wq hSw
                (try dsimp only at hSw)
                go_simp
                try with_reducible rfl
              try simp only [Act.put, List.setIfInBounds_toArray, List.set_cons_zero, List.set_cons_succ]
              refine wpAnyH_ready (rs := [6]) (by kernel_rfl) (by simp) ?_
              refine AllReadyH.cons (o := { dst := some 67, op := Op.call { callee := Callee.value (Operand.func 18), args := #[Operand.tmp 62, Operand.tmp 63, Operand.tmp 66], argTypes := #[29, 9, 38] }, type := 44, pos := "laws.go:627", after := #[{ on := 1, ground := Ground.data }, { on := 2, ground := Ground.data }, { on := 5, ground := Ground.data }], guard := none }) rfl (fun K hK => ?_) AllReadyH.nil
              go_simp
              refine (c18j aT cT T arg aR cR rs j V.drew hj (three_take H3.out j) HTV.out HRV.out HX.out).mono ?_
              rintro e w5 ⟨rfl, hb5⟩
              have HB5 : Hid (Below V.heap.size V w5) := ((Below.refl _ _).drew).trans hb5
              clear hb5
              have s0 := (HB5.out.cell (p := ⟨X, 0, none⟩) hXV).trans r0
              have s1 := (HB5.out.cell (p := ⟨Y, 0, none⟩) hYV).trans r1
              have s2 := (HB5.out.cell (p := ⟨Y, 1, none⟩) hYV).trans r2
              have s3 := (HB5.out.cell (p := ⟨Y, 2, none⟩) hYV).trans r3
              have s4 := (HB5.out.cell (p := ⟨Y, 3, none⟩) hYV).trans r4
              have s5 := (HB5.out.cell (p := ⟨Y, 4, none⟩) hYV).trans r5
              have s6 := (HB5.out.cell (p := ⟨Y, 5, none⟩) hYV).trans r6
              have y0 := (HB5.out.cell (p := ⟨Z, 0, none⟩) hZ).trans v0
              have y1 := (HB5.out.cell (p := ⟨Z, 1, none⟩) hZ).trans v1
              have y2 := (HB5.out.cell (p := ⟨Z, 2, none⟩) hZ).trans v2
              have y3 := (HB5.out.cell (p := ⟨Z, 3, none⟩) hZ).trans v3
              have y4 := (HB5.out.cell (p := ⟨Z, 4, none⟩) hZ).trans v4
              have y5 := (HB5.out.cell (p := ⟨Z, 5, none⟩) hZ).trans v5
              go_wp2_with fail
              clear hHeld
              refine hK.out _ _ ?_ (fun hHeld => ?_)
              · ((try dsimp only); go_keep)
              clear hK K
              try simp only [Act.put, List.setIfInBounds_toArray, List.set_cons_zero, List.set_cons_succ]
              refine wpAnyH_take (i := 7) (oi := { dst := some 68, op := Op.binOp BinOp.neq 44 (Operand.tmp 61) (Operand.tmp 67) 44, type := 4, pos := "laws.go:627", after := #[{ on := 0, ground := Ground.data }, { on := 6, ground := Ground.data }], guard := none }) (v := ?_) rfl (by kernel_rfl) (by kernel_rfl) (by kernel_rfl) (fun _ _ _ h => h) (Or.inl ⟨by rfl, ?_⟩) (by assumption) ?_
              rotate_left
              · intro wq hSw
                (try dsimp only at hSw)
                go_simp
                try with_reducible rfl
              try simp only [Act.put, List.setIfInBounds_toArray, List.set_cons_zero, List.set_cons_succ]
              refine wpAnyH_take (i := 8) (oi := { dst := some 69, op := Op.move (Operand.tmp 68), type := 4, pos := "laws.go:627", after := #[{ on := 7, ground := Ground.data }, { on := 6, ground := Ground.chain }], guard := none }) (v := ?_) rfl (by kernel_rfl) (by kernel_rfl) (by kernel_rfl) (fun _ _ _ h => h) (Or.inl ⟨by rfl, ?_⟩) (by assumption) ?_
              rotate_left
              · intro wq hSw
                (try dsimp only at hSw)
                go_simp
                try with_reducible rfl
              try simp only [Act.put, List.setIfInBounds_toArray, List.set_cons_zero, List.set_cons_succ]
              refine wpAnyH_take (i := 9) (oi := { dst := some 70, op := Op.fieldAddr 44 (Operand.tmp 8) 0, type := 0, pos := "laws.go:627", after := #[{ on := 8, ground := Ground.guard }], guard := some (8, false) }) (v := ?_) rfl (by kernel_rfl) (by kernel_rfl) (by kernel_rfl) (fun _ _ _ h => h) (Or.inl ⟨by rfl, ?_⟩) (by assumption) ?_
              rotate_left
              · intro wq hSw
                (try dsimp only at hSw)
                go_simp
                try with_reducible rfl
              try simp only [Act.put, List.setIfInBounds_toArray, List.set_cons_zero, List.set_cons_succ]
              refine wpAnyH_take (i := 10) (oi := { dst := some 71, op := Op.load 4 (Operand.tmp 70), type := 4, pos := "laws.go:627", after := #[{ on := 9, ground := Ground.data }, { on := 8, ground := Ground.guard }], guard := some (8, false) }) (v := ?_) rfl (by kernel_rfl) (by kernel_rfl) (by kernel_rfl) (fun _ _ _ h => h) (Or.inl ⟨by rfl, ?_⟩) (by assumption) ?_
              rotate_left
              · intro wq hSw
                (try dsimp only at hSw)
                go_simp
                try with_reducible rfl
              try simp only [Act.put, List.setIfInBounds_toArray, List.set_cons_zero, List.set_cons_succ]
              refine wpAnyH_take (i := 11) (oi := { dst := some 72, op := Op.move (Operand.tmp 71), type := 4, pos := "laws.go:627", after := #[{ on := 10, ground := Ground.data }, { on := 8, ground := Ground.chain }, { on := 8, ground := Ground.guard }], guard := some (8, false) }) (v := ?_) rfl (by kernel_rfl) (by kernel_rfl) (by kernel_rfl) (fun _ _ _ h => h) (Or.inl ⟨by rfl, ?_⟩) (by assumption) ?_
              rotate_left
              · intro wq hSw
                (try dsimp only at hSw)
                go_simp
                try with_reducible rfl
              try simp only [Act.put, List.setIfInBounds_toArray, List.set_cons_zero, List.set_cons_succ]
              refine wpAnyH_take (i := 12) (oi := { dst := some 73, op := Op.load 44 (Operand.tmp 8), type := 44, pos := "laws.go:627", after := #[{ on := 11, ground := Ground.guard }], guard := some (11, true) }) (v := ?_) rfl (by kernel_rfl) (by kernel_rfl) (by kernel_rfl) (fun _ _ _ h => h) (Or.inl ⟨by rfl, ?_⟩) (by assumption) ?_
              rotate_left
              · intro wq hSw
                (try dsimp only at hSw)
                go_simp
                try with_reducible rfl
              try simp only [Act.put, List.setIfInBounds_toArray, List.set_cons_zero, List.set_cons_succ]
              refine wpAnyH_take (i := 13) (oi := { dst := some 74, op := Op.load 44 (Operand.tmp 6), type := 44, pos := "laws.go:627", after := #[{ on := 11, ground := Ground.guard }], guard := some (11, true) }) (v := ?_) rfl (by kernel_rfl) (by kernel_rfl) (by kernel_rfl) (fun _ _ _ h => h) (Or.inl ⟨by rfl, ?_⟩) (by assumption) ?_
              rotate_left
              · intro wq hSw
                (try dsimp only at hSw)
                go_simp
                try with_reducible rfl
              try simp only [Act.put, List.setIfInBounds_toArray, List.set_cons_zero, List.set_cons_succ]
              refine wpAnyH_take (i := 14) (oi := { dst := some 75, op := Op.binOp BinOp.neq 44 (Operand.tmp 73) (Operand.tmp 74) 44, type := 4, pos := "laws.go:627", after := #[{ on := 12, ground := Ground.data }, { on := 13, ground := Ground.data }, { on := 11, ground := Ground.guard }], guard := some (11, true) }) (v := ?_) rfl (by kernel_rfl) (by kernel_rfl) (by kernel_rfl) (fun _ _ _ h => h) (Or.inl ⟨by rfl, ?_⟩) (by assumption) ?_
              rotate_left
              · intro wq hSw
                (try dsimp only at hSw)
                go_simp
                try with_reducible rfl
              try simp only [Act.put, List.setIfInBounds_toArray, List.set_cons_zero, List.set_cons_succ]
              refine wpAnyH_take (i := 15) (oi := { dst := some 76, op := Op.pick (Operand.tmp 72) (Operand.tmp 75) (Operand.const (Value.bool false)), type := 4, pos := "laws.go:627", after := #[{ on := 11, ground := Ground.data }, { on := 14, ground := Ground.data }, { on := 8, ground := Ground.guard }], guard := some (8, false) }) (v := ?_) rfl (by kernel_rfl) (by kernel_rfl) (by kernel_rfl) (fun _ _ _ h => h) (Or.inl ⟨by rfl, ?_⟩) (by assumption) ?_
              rotate_left
              · intro wq hSw
                (try dsimp only at hSw)
                go_simp
                try with_reducible rfl
              try simp only [Act.put, List.setIfInBounds_toArray, List.set_cons_zero, List.set_cons_succ]
              refine wpAnyH_take (i := 16) (oi := { dst := some 77, op := Op.pick (Operand.tmp 69) (Operand.const (Value.bool true)) (Operand.tmp 76), type := 4, pos := "laws.go:627", after := #[{ on := 8, ground := Ground.data }, { on := 15, ground := Ground.data }], guard := none }) (v := ?_) rfl (by kernel_rfl) (by kernel_rfl) (by kernel_rfl) (fun _ _ _ h => h) (Or.inl ⟨by rfl, ?_⟩) (by assumption) ?_
              rotate_left
              · intro wq hSw
                (try dsimp only at hSw)
                go_simp
                try with_reducible rfl
              try simp only [Act.put, List.setIfInBounds_toArray, List.set_cons_zero, List.set_cons_succ]
              refine wpAnyH_take (i := 17) (oi := { dst := some 78, op := Op.move (Operand.tmp 77), type := 4, pos := "laws.go:627", after := #[{ on := 16, ground := Ground.data }, { on := 11, ground := Ground.chain }], guard := none }) (v := ?_) rfl (by kernel_rfl) (by kernel_rfl) (by kernel_rfl) (fun _ _ _ h => h) (Or.inl ⟨by rfl, ?_⟩) (by assumption) ?_
              rotate_left
              · intro wq hSw
                (try dsimp only at hSw)
                go_simp
                try with_reducible rfl
              try simp only [Act.put, List.setIfInBounds_toArray, List.set_cons_zero, List.set_cons_succ]
              refine wpAnyH_take (i := 18) (oi := { dst := some 79, op := Op.fieldAddr 44 (Operand.tmp 8) 0, type := 0, pos := "laws.go:627", after := #[{ on := 17, ground := Ground.guard }], guard := some (17, false) }) (v := ?_) rfl (by kernel_rfl) (by kernel_rfl) (by kernel_rfl) (fun _ _ _ h => h) (Or.inl ⟨by rfl, ?_⟩) (by assumption) ?_
              rotate_left
              · intro wq hSw
                (try dsimp only at hSw)
                go_simp
                try with_reducible rfl
              try simp only [Act.put, List.setIfInBounds_toArray, List.set_cons_zero, List.set_cons_succ]
              refine wpAnyH_take (i := 19) (oi := { dst := some 80, op := Op.load 4 (Operand.tmp 79), type := 4, pos := "laws.go:627", after := #[{ on := 18, ground := Ground.data }, { on := 17, ground := Ground.guard }], guard := some (17, false) }) (v := ?_) rfl (by kernel_rfl) (by kernel_rfl) (by kernel_rfl) (fun _ _ _ h => h) (Or.inl ⟨by rfl, ?_⟩) (by assumption) ?_
              rotate_left
              · intro wq hSw
                (try dsimp only at hSw)
                go_simp
                try with_reducible rfl
              try simp only [Act.put, List.setIfInBounds_toArray, List.set_cons_zero, List.set_cons_succ]
              refine wpAnyH_take (i := 20) (oi := { dst := some 81, op := Op.unOp UnOp.not 4 (Operand.tmp 80), type := 4, pos := "laws.go:627", after := #[{ on := 19, ground := Ground.data }, { on := 17, ground := Ground.guard }], guard := some (17, false) }) (v := ?_) rfl (by kernel_rfl) (by kernel_rfl) (by kernel_rfl) (fun _ _ _ h => h) (Or.inl ⟨by rfl, ?_⟩) (by assumption) ?_
              rotate_left
              · intro wq hSw
                (try dsimp only at hSw)
                go_simp
                try with_reducible rfl
              try simp only [Act.put, List.setIfInBounds_toArray, List.set_cons_zero, List.set_cons_succ]
              refine wpAnyH_take (i := 21) (oi := { dst := some 82, op := Op.move (Operand.tmp 81), type := 4, pos := "laws.go:627", after := #[{ on := 20, ground := Ground.data }, { on := 17, ground := Ground.chain }, { on := 17, ground := Ground.guard }], guard := some (17, false) }) (v := ?_) rfl (by kernel_rfl) (by kernel_rfl) (by kernel_rfl) (fun _ _ _ h => h) (Or.inl ⟨by rfl, ?_⟩) (by assumption) ?_
              rotate_left
              · intro wq hSw
                (try dsimp only at hSw)
                go_simp
                try with_reducible rfl
              try simp only [Act.put, List.setIfInBounds_toArray, List.set_cons_zero, List.set_cons_succ]
              refine wpAnyH_take (i := 22) (oi := { dst := some 83, op := Op.fieldAddr 44 (Operand.tmp 8) 3, type := 0, pos := "laws.go:627", after := #[{ on := 21, ground := Ground.guard }], guard := some (21, true) }) (v := undef) rfl (by kernel_rfl) (by kernel_rfl) (by kernel_rfl) (fun _ _ _ h => h) (Or.inr ⟨by rfl, rfl⟩) (by assumption) ?_
              try simp only [Act.put, List.setIfInBounds_toArray, List.set_cons_zero, List.set_cons_succ]
              refine wpAnyH_take (i := 23) (oi := { dst := some 84, op := Op.load 9 (Operand.tmp 83), type := 9, pos := "laws.go:627", after := #[{ on := 22, ground := Ground.data }, { on := 21, ground := Ground.guard }], guard := some (21, true) }) (v := undef) rfl (by kernel_rfl) (by kernel_rfl) (by kernel_rfl) (fun _ _ _ h => h) (Or.inr ⟨by rfl, rfl⟩) (by assumption) ?_
              try simp only [Act.put, List.setIfInBounds_toArray, List.set_cons_zero, List.set_cons_succ]
              refine wpAnyH_take (i := 24) (oi := { dst := some 85, op := Op.binOp BinOp.eql 9 (Operand.tmp 84) (Operand.const (Value.string { data := #[] })) 9, type := 4, pos := "laws.go:627", after := #[{ on := 23, ground := Ground.data }, { on := 21, ground := Ground.guard }], guard := some (21, true) }) (v := undef) rfl (by kernel_rfl) (by kernel_rfl) (by kernel_rfl) (fun _ _ _ h => h) (Or.inr ⟨by rfl, rfl⟩) (by assumption) ?_
              try simp only [Act.put, List.setIfInBounds_toArray, List.set_cons_zero, List.set_cons_succ]
              refine wpAnyH_take (i := 25) (oi := { dst := some 86, op := Op.pick (Operand.tmp 82) (Operand.tmp 85) (Operand.const (Value.bool false)), type := 4, pos := "laws.go:627", after := #[{ on := 21, ground := Ground.data }, { on := 24, ground := Ground.data }, { on := 17, ground := Ground.guard }], guard := some (17, false) }) (v := ?_) rfl (by kernel_rfl) (by kernel_rfl) (by kernel_rfl) (fun _ _ _ h => h) (Or.inl ⟨by rfl, ?_⟩) (by assumption) ?_
              rotate_left
              · intro wq hSw
                (try dsimp only at hSw)
                go_simp
                try with_reducible rfl
              try simp only [Act.put, List.setIfInBounds_toArray, List.set_cons_zero, List.set_cons_succ]
              refine wpAnyH_take (i := 26) (oi := { dst := some 87, op := Op.pick (Operand.tmp 78) (Operand.const (Value.bool true)) (Operand.tmp 86), type := 4, pos := "laws.go:627", after := #[{ on := 17, ground := Ground.data }, { on := 25, ground := Ground.data }], guard := none }) (v := ?_) rfl (by kernel_rfl) (by kernel_rfl) (by kernel_rfl) (fun _ _ _ h => h) (Or.inl ⟨by rfl, ?_⟩) (by assumption) ?_
              rotate_left
              · intro wq hSw
                (try dsimp only at hSw)
                go_simp
                try with_reducible rfl
              try simp only [Act.put, List.setIfInBounds_toArray, List.set_cons_zero, List.set_cons_succ]
              refine wpAnyH_take (i := 27) (oi := { dst := some 88, op := Op.move (Operand.tmp 87), type := 4, pos := "laws.go:627", after := #[{ on := 26, ground := Ground.data }, { on := 21, ground := Ground.chain }], guard := none }) (v := ?_) rfl (by kernel_rfl) (by kernel_rfl) (by kernel_rfl) (fun _ _ _ h => h) (Or.inl ⟨by rfl, ?_⟩) (by assumption) ?_
              rotate_left
              · intro wq hSw
                (try dsimp only at hSw)
                go_simp
                try with_reducible rfl
              try simp only [Act.put, List.setIfInBounds_toArray, List.set_cons_zero, List.set_cons_succ]
              refine wpAnyH_take (i := 28) (oi := { dst := some 89, op := Op.fieldAddr 44 (Operand.tmp 8) 4, type := 0, pos := "laws.go:627", after := #[{ on := 27, ground := Ground.guard }], guard := some (27, false) }) (v := ?_) rfl (by kernel_rfl) (by kernel_rfl) (by kernel_rfl) (fun _ _ _ h => h) (Or.inl ⟨by rfl, ?_⟩) (by assumption) ?_
              rotate_left
              · intro wq hSw
                (try dsimp only at hSw)
                go_simp
                try with_reducible rfl
              try simp only [Act.put, List.setIfInBounds_toArray, List.set_cons_zero, List.set_cons_succ]
              refine wpAnyH_take (i := 29) (oi := { dst := some 90, op := Op.load 3 (Operand.tmp 89), type := 3, pos := "laws.go:627", after := #[{ on := 28, ground := Ground.data }, { on := 27, ground := Ground.guard }], guard := some (27, false) }) (v := ?_) rfl (by kernel_rfl) (by kernel_rfl) (by kernel_rfl) (fun _ _ _ h => h) (Or.inl ⟨by rfl, ?_⟩) (by assumption) ?_
              rotate_left
              · intro wq hSw
                (try dsimp only at hSw)
                go_simp
                try with_reducible rfl
              try simp only [Act.put, List.setIfInBounds_toArray, List.set_cons_zero, List.set_cons_succ]
              refine wpAnyH_take (i := 30) (oi := { dst := some 91, op := Op.fieldAddr 44 (Operand.tmp 6) 4, type := 0, pos := "laws.go:627", after := #[{ on := 27, ground := Ground.guard }], guard := some (27, false) }) (v := ?_) rfl (by kernel_rfl) (by kernel_rfl) (by kernel_rfl) (fun _ _ _ h => h) (Or.inl ⟨by rfl, ?_⟩) (by assumption) ?_
              rotate_left
              · intro wq hSw
                (try dsimp only at hSw)
                go_simp
                try with_reducible rfl
              try simp only [Act.put, List.setIfInBounds_toArray, List.set_cons_zero, List.set_cons_succ]
              refine wpAnyH_take (i := 31) (oi := { dst := some 92, op := Op.load 3 (Operand.tmp 91), type := 3, pos := "laws.go:627", after := #[{ on := 30, ground := Ground.data }, { on := 27, ground := Ground.guard }], guard := some (27, false) }) (v := ?_) rfl (by kernel_rfl) (by kernel_rfl) (by kernel_rfl) (fun _ _ _ h => h) (Or.inl ⟨by rfl, ?_⟩) (by assumption) ?_
              rotate_left
              · intro wq hSw
                (try dsimp only at hSw)
                go_simp
                try with_reducible rfl
              try simp only [Act.put, List.setIfInBounds_toArray, List.set_cons_zero, List.set_cons_succ]
              refine wpAnyH_take (i := 32) (oi := { dst := some 93, op := Op.binOp BinOp.gtr 3 (Operand.tmp 90) (Operand.tmp 92) 3, type := 4, pos := "laws.go:627", after := #[{ on := 29, ground := Ground.data }, { on := 31, ground := Ground.data }, { on := 27, ground := Ground.guard }], guard := some (27, false) }) (v := ?_) rfl (by kernel_rfl) (by kernel_rfl) (by kernel_rfl) (fun _ _ _ h => h) (Or.inl ⟨by rfl, ?_⟩) (by assumption) ?_
              rotate_left
              · intro wq hSw
                (try dsimp only at hSw)
                go_simp
                try with_reducible rfl
              try simp only [Act.put, List.setIfInBounds_toArray, List.set_cons_zero, List.set_cons_succ]
              refine wpAnyH_take (i := 33) (oi := { dst := some 94, op := Op.pick (Operand.tmp 88) (Operand.const (Value.bool true)) (Operand.tmp 93), type := 4, pos := "laws.go:627", after := #[{ on := 27, ground := Ground.data }, { on := 32, ground := Ground.data }], guard := none }) (v := ?_) rfl (by kernel_rfl) (by kernel_rfl) (by kernel_rfl) (fun _ _ _ h => h) (Or.inl ⟨by rfl, ?_⟩) (by assumption) ?_
              rotate_left
              · intro wq hSw
                (try dsimp only at hSw)
                go_simp
                try with_reducible rfl
              try simp only [Act.put, List.setIfInBounds_toArray, List.set_cons_zero, List.set_cons_succ]
              refine wpAnyH_done (by kernel_rfl) ?_ _
              have hBN : Below w3.heap.size w3 w5 := hbr.out.trans ((HBV.out.trans (HB5.out.mono HBV.out.size)).mono hzr)
              clear hHeld
              go_wp2
              go_roundw
              case rel => exact ⟨j + 1, by omega, by go_num, hBN⟩
              case measure => simp [intOf]; omega
          · go_wp2_with fail
            have hTA : TurnAt wr ((((((w4.setCell ⟨wr.heap.size, 0, none⟩ (.bool xo)).setCell ⟨wr.heap.size, 1, none⟩ (.int .i64 xc)).setCell ⟨wr.heap.size, 2, none⟩ (.string xt)).setCell ⟨wr.heap.size, 3, none⟩ (.bool xh)).setCell ⟨wr.heap.size, 4, none⟩ (.string xn)).setCell ⟨wr.heap.size, 5, none⟩ (.int .i64 xk)) wr.heap.size xo xc xt xh xn xk := turn_old xo xc xt xh xn xk hb4
            obtain ⟨hBV, hZ, v0, v1, v2, v3, v4, v5⟩ := hTA
            have HBV : Hid (Below wr.heap.size wr ((((((w4.setCell ⟨wr.heap.size, 0, none⟩ (.bool xo)).setCell ⟨wr.heap.size, 1, none⟩ (.int .i64 xc)).setCell ⟨wr.heap.size, 2, none⟩ (.string xt)).setCell ⟨wr.heap.size, 3, none⟩ (.bool xh)).setCell ⟨wr.heap.size, 4, none⟩ (.string xn)).setCell ⟨wr.heap.size, 5, none⟩ (.int .i64 xk))) := hBV
            clear hBV
            generalize ((((((w4.setCell ⟨wr.heap.size, 0, none⟩ (.bool xo)).setCell ⟨wr.heap.size, 1, none⟩ (.int .i64 xc)).setCell ⟨wr.heap.size, 2, none⟩ (.string xt)).setCell ⟨wr.heap.size, 3, none⟩ (.bool xh)).setCell ⟨wr.heap.size, 4, none⟩ (.string xn)).setCell ⟨wr.heap.size, 5, none⟩ (.int .i64 xk)) = V at *
            generalize hZe : wr.heap.size = Z at v0 v1 v2 v3 v4 v5 hZ ⊢
            clear hZe
            have r0 := (HBV.out.cell (p := ⟨X, 0, none⟩) hXr).trans e0
            have r1 := (HBV.out.cell (p := ⟨Y, 0, none⟩) hYr).trans e1
            have r2 := (HBV.out.cell (p := ⟨Y, 1, none⟩) hYr).trans e2
            have r3 := (HBV.out.cell (p := ⟨Y, 2, none⟩) hYr).trans e3
            have r4 := (HBV.out.cell (p := ⟨Y, 3, none⟩) hYr).trans e4
            have r5 := (HBV.out.cell (p := ⟨Y, 4, none⟩) hYr).trans e5
            have r6 := (HBV.out.cell (p := ⟨Y, 5, none⟩) hYr).trans e6
            have hXV : X < V.heap.size := Nat.lt_of_lt_of_le hXr HBV.out.size
            have hYV : Y < V.heap.size := Nat.lt_of_lt_of_le hYr HBV.out.size
            have HTV : Hid (InsAt V.drew aT T) := ins_below (ins_below HT3.out HBV.out) ((Below.refl _ _).drew)
            have HRV : Hid (ResAt V.drew aR (rs.take j)) := res_below (res_below HR3.out HBV.out) ((Below.refl _ _).drew)
            clear HB4
            cases xo
            · have hk0 : xk ≤ k := HPRE.out.steps
              have hk1 : decide (k < xk) = false := decide_eq_false (by omega)
              have hn1 : 1 ≤ xn.size := HPRE.out.name rfl
              have hne1 : xn.toList.isEmpty = false := by rw [ByteArray.toList_eq]; exact str_isEmpty xn hn1
              refine wp_region_held_drew (S := (fun u => u.cell? ⟨X, 0, none⟩ = some (.slice aT T.length cT) ∧ u.cell? ⟨Y, 0, none⟩ = some (.bool true) ∧ u.cell? ⟨Y, 1, none⟩ = some (.int .i64 c) ∧ u.cell? ⟨Y, 2, none⟩ = some (.string t) ∧ u.cell? ⟨Y, 3, none⟩ = some (.bool hh) ∧ u.cell? ⟨Y, 4, none⟩ = some (.string n) ∧ u.cell? ⟨Y, 5, none⟩ = some (.int .i64 k) ∧ u.cell? ⟨Z, 0, none⟩ = some (.bool false) ∧ u.cell? ⟨Z, 1, none⟩ = some (.int .i64 xc) ∧ u.cell? ⟨Z, 2, none⟩ = some (.string xt) ∧ u.cell? ⟨Z, 3, none⟩ = some (.bool xh) ∧ u.cell? ⟨Z, 4, none⟩ = some (.string xn) ∧ u.cell? ⟨Z, 5, none⟩ = some (.int .i64 xk))) (by kernel_rfl) ?_ (fun hHeld => ?_)
              · ((try dsimp only); go_keep)
              refine wpAnyH_take (i := 0) (oi := { dst := some 61, op := Op.load 44 (Operand.tmp 8), type := 44, pos := "laws.go:627", after := #[], guard := none }) (v := ?_) rfl (by kernel_rfl) (by kernel_rfl) (by kernel_rfl) (fun _ _ _ h => h) (Or.inl ⟨by rfl, ?_⟩) (by assumption) ?_
              rotate_left
              · intro wq hSw
                (try dsimp only at hSw)
                go_simp
                try with_reducible rfl
              try simp only [Act.put, List.setIfInBounds_toArray, List.set_cons_zero, List.set_cons_succ]
              refine wpAnyH_take (i := 1) (oi := { dst := some 62, op := Op.load 29 (Operand.tmp 3), type := 29, pos := "laws.go:627", after := #[], guard := none }) (v := ?_) rfl (by kernel_rfl) (by kernel_rfl) (by kernel_rfl) (fun _ _ _ h => h) (Or.inl ⟨by rfl, ?_⟩) (by assumption) ?_
              rotate_left
              · intro wq hSw
                (try dsimp only at hSw)
                go_simp
                try with_reducible rfl
              try simp only [Act.put, List.setIfInBounds_toArray, List.set_cons_zero, List.set_cons_succ]
              refine wpAnyH_take (i := 2) (oi := { dst := some 63, op := Op.move (Operand.tmp 4), type := 9, pos := "laws.go:627", after := #[], guard := none }) (v := ?_) rfl (by kernel_rfl) (by kernel_rfl) (by kernel_rfl) (fun _ _ _ h => h) (Or.inl ⟨by rfl, ?_⟩) (by assumption) ?_
              rotate_left
              · intro wq hSw
                (try dsimp only at hSw)
                go_simp
                try with_reducible rfl
              try simp only [Act.put, List.setIfInBounds_toArray, List.set_cons_zero, List.set_cons_succ]
              refine wpAnyH_take (i := 3) (oi := { dst := some 64, op := Op.move (Operand.tmp 5), type := 38, pos := "laws.go:627", after := #[], guard := none }) (v := ?_) rfl (by kernel_rfl) (by kernel_rfl) (by kernel_rfl) (fun _ _ _ h => h) (Or.inl ⟨by rfl, ?_⟩) (by assumption) ?_
              rotate_left
              · intro wq hSw
                (try dsimp only at hSw)
                go_simp
                try with_reducible rfl
              try simp only [Act.put, List.setIfInBounds_toArray, List.set_cons_zero, List.set_cons_succ]
              refine wpAnyH_take (i := 4) (oi := { dst := some 65, op := Op.move (Operand.tmp 7), type := 3, pos := "laws.go:627", after := #[], guard := none }) (v := ?_) rfl (by kernel_rfl) (by kernel_rfl) (by kernel_rfl) (fun _ _ _ h => h) (Or.inl ⟨by rfl, ?_⟩) (by assumption) ?_
              rotate_left
              · intro wq hSw
                (try dsimp only at hSw)
                go_simp
                try with_reducible rfl
              try simp only [Act.put, List.setIfInBounds_toArray, List.set_cons_zero, List.set_cons_succ]
              refine wpAnyH_take (i := 5) (oi := { dst := some 66, op := Op.slice 38 (Operand.tmp 64) none (some (Operand.tmp 65)) none, type := 38, pos := "laws.go:627", after := #[{ on := 3, ground := Ground.data }, { on := 4, ground := Ground.data }], guard := none }) (v := ?_) rfl (by kernel_rfl) (by kernel_rfl) (by kernel_rfl) (fun _ _ _ h => h) (Or.inl ⟨by rfl, ?_⟩) (by assumption) ?_
              rotate_left
              · intro wq hSw
                (try dsimp only at hSw)
                go_simp
                try with_reducible rfl
              try simp only [Act.put, List.setIfInBounds_toArray, List.set_cons_zero, List.set_cons_succ]
              refine wpAnyH_ready (rs := [6]) (by kernel_rfl) (by simp) ?_
              refine AllReadyH.cons (o := { dst := some 67, op := Op.call { callee := Callee.value (Operand.func 18), args := #[Operand.tmp 62, Operand.tmp 63, Operand.tmp 66], argTypes := #[29, 9, 38] }, type := 44, pos := "laws.go:627", after := #[{ on := 1, ground := Ground.data }, { on := 2, ground := Ground.data }, { on := 5, ground := Ground.data }], guard := none }) rfl (fun K hK => ?_) AllReadyH.nil
              go_simp
              refine (c18j aT cT T arg aR cR rs j V.drew hj (three_take H3.out j) HTV.out HRV.out HX.out).mono ?_
              rintro e w5 ⟨rfl, hb5⟩
              have HB5 : Hid (Below V.heap.size V w5) := ((Below.refl _ _).drew).trans hb5
              clear hb5
              have s0 := (HB5.out.cell (p := ⟨X, 0, none⟩) hXV).trans r0
              have s1 := (HB5.out.cell (p := ⟨Y, 0, none⟩) hYV).trans r1
              have s2 := (HB5.out.cell (p := ⟨Y, 1, none⟩) hYV).trans r2
              have s3 := (HB5.out.cell (p := ⟨Y, 2, none⟩) hYV).trans r3
              have s4 := (HB5.out.cell (p := ⟨Y, 3, none⟩) hYV).trans r4
              have s5 := (HB5.out.cell (p := ⟨Y, 4, none⟩) hYV).trans r5
              have s6 := (HB5.out.cell (p := ⟨Y, 5, none⟩) hYV).trans r6
              have y0 := (HB5.out.cell (p := ⟨Z, 0, none⟩) hZ).trans v0
              have y1 := (HB5.out.cell (p := ⟨Z, 1, none⟩) hZ).trans v1
              have y2 := (HB5.out.cell (p := ⟨Z, 2, none⟩) hZ).trans v2
              have y3 := (HB5.out.cell (p := ⟨Z, 3, none⟩) hZ).trans v3
              have y4 := (HB5.out.cell (p := ⟨Z, 4, none⟩) hZ).trans v4
              have y5 := (HB5.out.cell (p := ⟨Z, 5, none⟩) hZ).trans v5
              go_wp2_with fail
              clear hHeld
              refine hK.out _ _ ?_ (fun hHeld => ?_)
              · ((try dsimp only); go_keep)
              clear hK K
              try simp only [Act.put, List.setIfInBounds_toArray, List.set_cons_zero, List.set_cons_succ]
              refine wpAnyH_take (i := 7) (oi := { dst := some 68, op := Op.binOp BinOp.neq 44 (Operand.tmp 61) (Operand.tmp 67) 44, type := 4, pos := "laws.go:627", after := #[{ on := 0, ground := Ground.data }, { on := 6, ground := Ground.data }], guard := none }) (v := ?_) rfl (by kernel_rfl) (by kernel_rfl) (by kernel_rfl) (fun _ _ _ h => h) (Or.inl ⟨by rfl, ?_⟩) (by assumption) ?_
              rotate_left
              · intro wq hSw
                (try dsimp only at hSw)
                go_simp
                try with_reducible rfl
              try simp only [Act.put, List.setIfInBounds_toArray, List.set_cons_zero, List.set_cons_succ]
              refine wpAnyH_take (i := 8) (oi := { dst := some 69, op := Op.move (Operand.tmp 68), type := 4, pos := "laws.go:627", after := #[{ on := 7, ground := Ground.data }, { on := 6, ground := Ground.chain }], guard := none }) (v := ?_) rfl (by kernel_rfl) (by kernel_rfl) (by kernel_rfl) (fun _ _ _ h => h) (Or.inl ⟨by rfl, ?_⟩) (by assumption) ?_
              rotate_left
              · intro wq hSw
                (try dsimp only at hSw)
                go_simp
                try with_reducible rfl
              try simp only [Act.put, List.setIfInBounds_toArray, List.set_cons_zero, List.set_cons_succ]
              refine wpAnyH_take (i := 9) (oi := { dst := some 70, op := Op.fieldAddr 44 (Operand.tmp 8) 0, type := 0, pos := "laws.go:627", after := #[{ on := 8, ground := Ground.guard }], guard := some (8, false) }) (v := ?_) rfl (by kernel_rfl) (by kernel_rfl) (by kernel_rfl) (fun _ _ _ h => h) (Or.inl ⟨by rfl, ?_⟩) (by assumption) ?_
              rotate_left
              · intro wq hSw
                (try dsimp only at hSw)
                go_simp
                try with_reducible rfl
              try simp only [Act.put, List.setIfInBounds_toArray, List.set_cons_zero, List.set_cons_succ]
              refine wpAnyH_take (i := 10) (oi := { dst := some 71, op := Op.load 4 (Operand.tmp 70), type := 4, pos := "laws.go:627", after := #[{ on := 9, ground := Ground.data }, { on := 8, ground := Ground.guard }], guard := some (8, false) }) (v := ?_) rfl (by kernel_rfl) (by kernel_rfl) (by kernel_rfl) (fun _ _ _ h => h) (Or.inl ⟨by rfl, ?_⟩) (by assumption) ?_
              rotate_left
              · intro wq hSw
                (try dsimp only at hSw)
                go_simp
                try with_reducible rfl
              try simp only [Act.put, List.setIfInBounds_toArray, List.set_cons_zero, List.set_cons_succ]
              refine wpAnyH_take (i := 11) (oi := { dst := some 72, op := Op.move (Operand.tmp 71), type := 4, pos := "laws.go:627", after := #[{ on := 10, ground := Ground.data }, { on := 8, ground := Ground.chain }, { on := 8, ground := Ground.guard }], guard := some (8, false) }) (v := ?_) rfl (by kernel_rfl) (by kernel_rfl) (by kernel_rfl) (fun _ _ _ h => h) (Or.inl ⟨by rfl, ?_⟩) (by assumption) ?_
              rotate_left
              · intro wq hSw
                (try dsimp only at hSw)
                go_simp
                try with_reducible rfl
              try simp only [Act.put, List.setIfInBounds_toArray, List.set_cons_zero, List.set_cons_succ]
              refine wpAnyH_take (i := 12) (oi := { dst := some 73, op := Op.load 44 (Operand.tmp 8), type := 44, pos := "laws.go:627", after := #[{ on := 11, ground := Ground.guard }], guard := some (11, true) }) (v := undef) rfl (by kernel_rfl) (by kernel_rfl) (by kernel_rfl) (fun _ _ _ h => h) (Or.inr ⟨by rfl, rfl⟩) (by assumption) ?_
              try simp only [Act.put, List.setIfInBounds_toArray, List.set_cons_zero, List.set_cons_succ]
              refine wpAnyH_take (i := 13) (oi := { dst := some 74, op := Op.load 44 (Operand.tmp 6), type := 44, pos := "laws.go:627", after := #[{ on := 11, ground := Ground.guard }], guard := some (11, true) }) (v := undef) rfl (by kernel_rfl) (by kernel_rfl) (by kernel_rfl) (fun _ _ _ h => h) (Or.inr ⟨by rfl, rfl⟩) (by assumption) ?_
              try simp only [Act.put, List.setIfInBounds_toArray, List.set_cons_zero, List.set_cons_succ]
              refine wpAnyH_take (i := 14) (oi := { dst := some 75, op := Op.binOp BinOp.neq 44 (Operand.tmp 73) (Operand.tmp 74) 44, type := 4, pos := "laws.go:627", after := #[{ on := 12, ground := Ground.data }, { on := 13, ground := Ground.data }, { on := 11, ground := Ground.guard }], guard := some (11, true) }) (v := undef) rfl (by kernel_rfl) (by kernel_rfl) (by kernel_rfl) (fun _ _ _ h => h) (Or.inr ⟨by rfl, rfl⟩) (by assumption) ?_
              try simp only [Act.put, List.setIfInBounds_toArray, List.set_cons_zero, List.set_cons_succ]
              refine wpAnyH_take (i := 15) (oi := { dst := some 76, op := Op.pick (Operand.tmp 72) (Operand.tmp 75) (Operand.const (Value.bool false)), type := 4, pos := "laws.go:627", after := #[{ on := 11, ground := Ground.data }, { on := 14, ground := Ground.data }, { on := 8, ground := Ground.guard }], guard := some (8, false) }) (v := ?_) rfl (by kernel_rfl) (by kernel_rfl) (by kernel_rfl) (fun _ _ _ h => h) (Or.inl ⟨by rfl, ?_⟩) (by assumption) ?_
              rotate_left
              · intro wq hSw
                (try dsimp only at hSw)
                go_simp
                try with_reducible rfl
              try simp only [Act.put, List.setIfInBounds_toArray, List.set_cons_zero, List.set_cons_succ]
              refine wpAnyH_take (i := 16) (oi := { dst := some 77, op := Op.pick (Operand.tmp 69) (Operand.const (Value.bool true)) (Operand.tmp 76), type := 4, pos := "laws.go:627", after := #[{ on := 8, ground := Ground.data }, { on := 15, ground := Ground.data }], guard := none }) (v := ?_) rfl (by kernel_rfl) (by kernel_rfl) (by kernel_rfl) (fun _ _ _ h => h) (Or.inl ⟨by rfl, ?_⟩) (by assumption) ?_
              rotate_left
              · intro wq hSw
                (try dsimp only at hSw)
                go_simp
                try with_reducible rfl
              try simp only [Act.put, List.setIfInBounds_toArray, List.set_cons_zero, List.set_cons_succ]
              refine wpAnyH_take (i := 17) (oi := { dst := some 78, op := Op.move (Operand.tmp 77), type := 4, pos := "laws.go:627", after := #[{ on := 16, ground := Ground.data }, { on := 11, ground := Ground.chain }], guard := none }) (v := ?_) rfl (by kernel_rfl) (by kernel_rfl) (by kernel_rfl) (fun _ _ _ h => h) (Or.inl ⟨by rfl, ?_⟩) (by assumption) ?_
              rotate_left
              · intro wq hSw
                (try dsimp only at hSw)
                go_simp
                try with_reducible rfl
              try simp only [Act.put, List.setIfInBounds_toArray, List.set_cons_zero, List.set_cons_succ]
              refine wpAnyH_take (i := 18) (oi := { dst := some 79, op := Op.fieldAddr 44 (Operand.tmp 8) 0, type := 0, pos := "laws.go:627", after := #[{ on := 17, ground := Ground.guard }], guard := some (17, false) }) (v := ?_) rfl (by kernel_rfl) (by kernel_rfl) (by kernel_rfl) (fun _ _ _ h => h) (Or.inl ⟨by rfl, ?_⟩) (by assumption) ?_
              rotate_left
              · intro wq hSw
                (try dsimp only at hSw)
                go_simp
                try with_reducible rfl
              try simp only [Act.put, List.setIfInBounds_toArray, List.set_cons_zero, List.set_cons_succ]
              refine wpAnyH_take (i := 19) (oi := { dst := some 80, op := Op.load 4 (Operand.tmp 79), type := 4, pos := "laws.go:627", after := #[{ on := 18, ground := Ground.data }, { on := 17, ground := Ground.guard }], guard := some (17, false) }) (v := ?_) rfl (by kernel_rfl) (by kernel_rfl) (by kernel_rfl) (fun _ _ _ h => h) (Or.inl ⟨by rfl, ?_⟩) (by assumption) ?_
              rotate_left
              · intro wq hSw
                (try dsimp only at hSw)
                go_simp
                try with_reducible rfl
              try simp only [Act.put, List.setIfInBounds_toArray, List.set_cons_zero, List.set_cons_succ]
              refine wpAnyH_take (i := 20) (oi := { dst := some 81, op := Op.unOp UnOp.not 4 (Operand.tmp 80), type := 4, pos := "laws.go:627", after := #[{ on := 19, ground := Ground.data }, { on := 17, ground := Ground.guard }], guard := some (17, false) }) (v := ?_) rfl (by kernel_rfl) (by kernel_rfl) (by kernel_rfl) (fun _ _ _ h => h) (Or.inl ⟨by rfl, ?_⟩) (by assumption) ?_
              rotate_left
              · intro wq hSw
                (try dsimp only at hSw)
                go_simp
                try with_reducible rfl
              try simp only [Act.put, List.setIfInBounds_toArray, List.set_cons_zero, List.set_cons_succ]
              refine wpAnyH_take (i := 21) (oi := { dst := some 82, op := Op.move (Operand.tmp 81), type := 4, pos := "laws.go:627", after := #[{ on := 20, ground := Ground.data }, { on := 17, ground := Ground.chain }, { on := 17, ground := Ground.guard }], guard := some (17, false) }) (v := ?_) rfl (by kernel_rfl) (by kernel_rfl) (by kernel_rfl) (fun _ _ _ h => h) (Or.inl ⟨by rfl, ?_⟩) (by assumption) ?_
              rotate_left
              · intro wq hSw
                (try dsimp only at hSw)
                go_simp
                try with_reducible rfl
              try simp only [Act.put, List.setIfInBounds_toArray, List.set_cons_zero, List.set_cons_succ]
              refine wpAnyH_take (i := 22) (oi := { dst := some 83, op := Op.fieldAddr 44 (Operand.tmp 8) 3, type := 0, pos := "laws.go:627", after := #[{ on := 21, ground := Ground.guard }], guard := some (21, true) }) (v := ?_) rfl (by kernel_rfl) (by kernel_rfl) (by kernel_rfl) (fun _ _ _ h => h) (Or.inl ⟨by rfl, ?_⟩) (by assumption) ?_
              rotate_left
              · intro wq hSw
                (try dsimp only at hSw)
                go_simp
                try with_reducible rfl
              try simp only [Act.put, List.setIfInBounds_toArray, List.set_cons_zero, List.set_cons_succ]
              refine wpAnyH_take (i := 23) (oi := { dst := some 84, op := Op.load 9 (Operand.tmp 83), type := 9, pos := "laws.go:627", after := #[{ on := 22, ground := Ground.data }, { on := 21, ground := Ground.guard }], guard := some (21, true) }) (v := ?_) rfl (by kernel_rfl) (by kernel_rfl) (by kernel_rfl) (fun _ _ _ h => h) (Or.inl ⟨by rfl, ?_⟩) (by assumption) ?_
              rotate_left
              · intro wq hSw
                (try dsimp only at hSw)
                go_simp
                try with_reducible rfl
              try simp only [Act.put, List.setIfInBounds_toArray, List.set_cons_zero, List.set_cons_succ]
              refine wpAnyH_take (i := 24) (oi := { dst := some 85, op := Op.binOp BinOp.eql 9 (Operand.tmp 84) (Operand.const (Value.string { data := #[] })) 9, type := 4, pos := "laws.go:627", after := #[{ on := 23, ground := Ground.data }, { on := 21, ground := Ground.guard }], guard := some (21, true) }) (v := ?_) rfl (by kernel_rfl) (by kernel_rfl) (by kernel_rfl) (fun _ _ _ h => h) (Or.inl ⟨by rfl, ?_⟩) (by assumption) ?_
              rotate_left
              · intro wq hSw
                (try dsimp only at hSw)
                go_simp
                try with_reducible rfl
              try simp only [Act.put, List.setIfInBounds_toArray, List.set_cons_zero, List.set_cons_succ]
              refine wpAnyH_take (i := 25) (oi := { dst := some 86, op := Op.pick (Operand.tmp 82) (Operand.tmp 85) (Operand.const (Value.bool false)), type := 4, pos := "laws.go:627", after := #[{ on := 21, ground := Ground.data }, { on := 24, ground := Ground.data }, { on := 17, ground := Ground.guard }], guard := some (17, false) }) (v := ?_) rfl (by kernel_rfl) (by kernel_rfl) (by kernel_rfl) (fun _ _ _ h => h) (Or.inl ⟨by rfl, ?_⟩) (by assumption) ?_
              rotate_left
              · intro wq hSw
                (try dsimp only at hSw)
                go_simp
                try with_reducible rfl
              try simp only [Act.put, List.setIfInBounds_toArray, List.set_cons_zero, List.set_cons_succ]
              refine wpAnyH_take (i := 26) (oi := { dst := some 87, op := Op.pick (Operand.tmp 78) (Operand.const (Value.bool true)) (Operand.tmp 86), type := 4, pos := "laws.go:627", after := #[{ on := 17, ground := Ground.data }, { on := 25, ground := Ground.data }], guard := none }) (v := ?_) rfl (by kernel_rfl) (by kernel_rfl) (by kernel_rfl) (fun _ _ _ h => h) (Or.inl ⟨by rfl, ?_⟩) (by assumption) ?_
              rotate_left
              · intro wq hSw
                (try dsimp only at hSw)
                go_simp
                try with_reducible rfl
              try simp only [Act.put, List.setIfInBounds_toArray, List.set_cons_zero, List.set_cons_succ]
              refine wpAnyH_take (i := 27) (oi := { dst := some 88, op := Op.move (Operand.tmp 87), type := 4, pos := "laws.go:627", after := #[{ on := 26, ground := Ground.data }, { on := 21, ground := Ground.chain }], guard := none }) (v := ?_) rfl (by kernel_rfl) (by kernel_rfl) (by kernel_rfl) (fun _ _ _ h => h) (Or.inl ⟨by rfl, ?_⟩) (by assumption) ?_
              rotate_left
              · intro wq hSw
                (try dsimp only at hSw)
                go_simp
                try with_reducible rfl
              try simp only [Act.put, List.setIfInBounds_toArray, List.set_cons_zero, List.set_cons_succ]
              refine wpAnyH_take (i := 28) (oi := { dst := some 89, op := Op.fieldAddr 44 (Operand.tmp 8) 4, type := 0, pos := "laws.go:627", after := #[{ on := 27, ground := Ground.guard }], guard := some (27, false) }) (v := ?_) rfl (by kernel_rfl) (by kernel_rfl) (by kernel_rfl) (fun _ _ _ h => h) (Or.inl ⟨by rfl, ?_⟩) (by assumption) ?_
              rotate_left
              · intro wq hSw
                (try dsimp only at hSw)
                go_simp
                try with_reducible rfl
              try simp only [Act.put, List.setIfInBounds_toArray, List.set_cons_zero, List.set_cons_succ]
              refine wpAnyH_take (i := 29) (oi := { dst := some 90, op := Op.load 3 (Operand.tmp 89), type := 3, pos := "laws.go:627", after := #[{ on := 28, ground := Ground.data }, { on := 27, ground := Ground.guard }], guard := some (27, false) }) (v := ?_) rfl (by kernel_rfl) (by kernel_rfl) (by kernel_rfl) (fun _ _ _ h => h) (Or.inl ⟨by rfl, ?_⟩) (by assumption) ?_
              rotate_left
              · intro wq hSw
                (try dsimp only at hSw)
                go_simp
                try with_reducible rfl
              try simp only [Act.put, List.setIfInBounds_toArray, List.set_cons_zero, List.set_cons_succ]
              refine wpAnyH_take (i := 30) (oi := { dst := some 91, op := Op.fieldAddr 44 (Operand.tmp 6) 4, type := 0, pos := "laws.go:627", after := #[{ on := 27, ground := Ground.guard }], guard := some (27, false) }) (v := ?_) rfl (by kernel_rfl) (by kernel_rfl) (by kernel_rfl) (fun _ _ _ h => h) (Or.inl ⟨by rfl, ?_⟩) (by assumption) ?_
              rotate_left
              · intro wq hSw
                (try dsimp only at hSw)
                go_simp
                try with_reducible rfl
              try simp only [Act.put, List.setIfInBounds_toArray, List.set_cons_zero, List.set_cons_succ]
              refine wpAnyH_take (i := 31) (oi := { dst := some 92, op := Op.load 3 (Operand.tmp 91), type := 3, pos := "laws.go:627", after := #[{ on := 30, ground := Ground.data }, { on := 27, ground := Ground.guard }], guard := some (27, false) }) (v := ?_) rfl (by kernel_rfl) (by kernel_rfl) (by kernel_rfl) (fun _ _ _ h => h) (Or.inl ⟨by rfl, ?_⟩) (by assumption) ?_
              rotate_left
              · intro wq hSw
                (try dsimp only at hSw)
                go_simp
                try with_reducible rfl
              try simp only [Act.put, List.setIfInBounds_toArray, List.set_cons_zero, List.set_cons_succ]
              refine wpAnyH_take (i := 32) (oi := { dst := some 93, op := Op.binOp BinOp.gtr 3 (Operand.tmp 90) (Operand.tmp 92) 3, type := 4, pos := "laws.go:627", after := #[{ on := 29, ground := Ground.data }, { on := 31, ground := Ground.data }, { on := 27, ground := Ground.guard }], guard := some (27, false) }) (v := ?_) rfl (by kernel_rfl) (by kernel_rfl) (by kernel_rfl) (fun _ _ _ h => h) (Or.inl ⟨by rfl, ?_⟩) (by assumption) ?_
              rotate_left
              · intro wq hSw
                (try dsimp only at hSw)
                go_simp
                try with_reducible rfl
              try simp only [Act.put, List.setIfInBounds_toArray, List.set_cons_zero, List.set_cons_succ]
              refine wpAnyH_take (i := 33) (oi := { dst := some 94, op := Op.pick (Operand.tmp 88) (Operand.const (Value.bool true)) (Operand.tmp 93), type := 4, pos := "laws.go:627", after := #[{ on := 27, ground := Ground.data }, { on := 32, ground := Ground.data }], guard := none }) (v := ?_) rfl (by kernel_rfl) (by kernel_rfl) (by kernel_rfl) (fun _ _ _ h => h) (Or.inl ⟨by rfl, ?_⟩) (by assumption) ?_
              rotate_left
              · intro wq hSw
                (try dsimp only at hSw)
                go_simp
                try with_reducible rfl
              try simp only [Act.put, List.setIfInBounds_toArray, List.set_cons_zero, List.set_cons_succ]
              refine wpAnyH_done (by kernel_rfl) ?_ _
              have hBN : Below w3.heap.size w3 w5 := hbr.out.trans ((HBV.out.trans (HB5.out.mono HBV.out.size)).mono hzr)
              clear hHeld
              go_wp2
              go_roundw
              case rel => exact ⟨j + 1, by omega, by go_num, hBN⟩
              case measure => simp [intOf]; omega
            · obtain ⟨hoo, m1, m2, m3, m4, m5⟩ := pre_same HPRE.out
              clear hoo
              subst m1 m2 m3 m4 m5
              have hk1 : decide (xk < xk) = false := decide_eq_false (by omega)
              refine wp_region_held_drew (S := (fun u => u.cell? ⟨X, 0, none⟩ = some (.slice aT T.length cT) ∧ u.cell? ⟨Y, 0, none⟩ = some (.bool true) ∧ u.cell? ⟨Y, 1, none⟩ = some (.int .i64 xc) ∧ u.cell? ⟨Y, 2, none⟩ = some (.string xt) ∧ u.cell? ⟨Y, 3, none⟩ = some (.bool xh) ∧ u.cell? ⟨Y, 4, none⟩ = some (.string xn) ∧ u.cell? ⟨Y, 5, none⟩ = some (.int .i64 xk) ∧ u.cell? ⟨Z, 0, none⟩ = some (.bool true) ∧ u.cell? ⟨Z, 1, none⟩ = some (.int .i64 xc) ∧ u.cell? ⟨Z, 2, none⟩ = some (.string xt) ∧ u.cell? ⟨Z, 3, none⟩ = some (.bool xh) ∧ u.cell? ⟨Z, 4, none⟩ = some (.string xn) ∧ u.cell? ⟨Z, 5, none⟩ = some (.int .i64 xk))) (by kernel_rfl) ?_ (fun hHeld => ?_)
              · ((try dsimp only); go_keep)
              refine wpAnyH_take (i := 0) (oi := { dst := some 61, op := Op.load 44 (Operand.tmp 8), type := 44, pos := "laws.go:627", after := #[], guard := none }) (v := ?_) rfl (by kernel_rfl) (by kernel_rfl) (by kernel_rfl) (fun _ _ _ h => h) (Or.inl ⟨by rfl, ?_⟩) (by assumption) ?_
              rotate_left
              · intro wq hSw
                (try dsimp only at hSw)
                go_simp
                try with_reducible rfl
              try simp only [Act.put, List.setIfInBounds_toArray, List.set_cons_zero, List.set_cons_succ]
              refine wpAnyH_take (i := 1) (oi := { dst := some 62, op := Op.load 29 (Operand.tmp 3), type := 29, pos := "laws.go:627", after := #[], guard := none }) (v := ?_) rfl (by kernel_rfl) (by kernel_rfl) (by kernel_rfl) (fun _ _ _ h => h) (Or.inl ⟨by rfl, ?_⟩) (by assumption) ?_
              rotate_left
              · intro wq hSw
                (try dsimp only at hSw)
                go_simp
                try with_reducible rfl
              try simp only [Act.put, List.setIfInBounds_toArray, List.set_cons_zero, List.set_cons_succ]
              refine wpAnyH_take (i := 2) (oi := { dst := some 63, op := Op.move (Operand.tmp 4), type := 9, pos := "laws.go:627", after := #[], guard := none }) (v := ?_) rfl (by kernel_rfl) (by kernel_rfl) (by kernel_rfl) (fun _ _ _ h => h) (Or.inl ⟨by rfl, ?_⟩) (by assumption) ?_
              rotate_left
              · intro wq hSw
                (try dsimp only at hSw)
                go_simp
                try with_reducible rfl
              try simp only [Act.put, List.setIfInBounds_toArray, List.set_cons_zero, List.set_cons_succ]
              refine wpAnyH_take (i := 3) (oi := { dst := some 64, op := Op.move (Operand.tmp 5), type := 38, pos := "laws.go:627", after := #[], guard := none }) (v := ?_) rfl (by kernel_rfl) (by kernel_rfl) (by kernel_rfl) (fun _ _ _ h => h) (Or.inl ⟨by rfl, ?_⟩) (by assumption) ?_
              rotate_left
              · intro wq hSw
                (try dsimp only at hSw)
                go_simp
                try with_reducible rfl
              try simp only [Act.put, List.setIfInBounds_toArray, List.set_cons_zero, List.set_cons_succ]
              refine wpAnyH_take (i := 4) (oi := { dst := some 65, op := Op.move (Operand.tmp 7), type := 3, pos := "laws.go:627", after := #[], guard := none }) (v := ?_) rfl (by kernel_rfl) (by kernel_rfl) (by kernel_rfl) (fun _ _ _ h => h) (Or.inl ⟨by rfl, ?_⟩) (by assumption) ?_
              rotate_left
              · intro wq hSw
                (try dsimp only at hSw)
                go_simp
                try with_reducible rfl
              try simp only [Act.put, List.setIfInBounds_toArray, List.set_cons_zero, List.set_cons_succ]
              refine wpAnyH_take (i := 5) (oi := { dst := some 66, op := Op.slice 38 (Operand.tmp 64) none (some (Operand.tmp 65)) none, type := 38, pos := "laws.go:627", after := #[{ on := 3, ground := Ground.data }, { on := 4, ground := Ground.data }], guard := none }) (v := ?_) rfl (by kernel_rfl) (by kernel_rfl) (by kernel_rfl) (fun _ _ _ h => h) (Or.inl ⟨by rfl, ?_⟩) (by assumption) ?_
              rotate_left
              · intro wq hSw
                (try dsimp only at hSw)
                go_simp
                try with_reducible rfl
              try simp only [Act.put, List.setIfInBounds_toArray, List.set_cons_zero, List.set_cons_succ]
              refine wpAnyH_ready (rs := [6]) (by kernel_rfl) (by simp) ?_
              refine AllReadyH.cons (o := { dst := some 67, op := Op.call { callee := Callee.value (Operand.func 18), args := #[Operand.tmp 62, Operand.tmp 63, Operand.tmp 66], argTypes := #[29, 9, 38] }, type := 44, pos := "laws.go:627", after := #[{ on := 1, ground := Ground.data }, { on := 2, ground := Ground.data }, { on := 5, ground := Ground.data }], guard := none }) rfl (fun K hK => ?_) AllReadyH.nil
              go_simp
              refine (c18j aT cT T arg aR cR rs j V.drew hj (three_take H3.out j) HTV.out HRV.out HX.out).mono ?_
              rintro e w5 ⟨rfl, hb5⟩
              have HB5 : Hid (Below V.heap.size V w5) := ((Below.refl _ _).drew).trans hb5
              clear hb5
              have s0 := (HB5.out.cell (p := ⟨X, 0, none⟩) hXV).trans r0
              have s1 := (HB5.out.cell (p := ⟨Y, 0, none⟩) hYV).trans r1
              have s2 := (HB5.out.cell (p := ⟨Y, 1, none⟩) hYV).trans r2
              have s3 := (HB5.out.cell (p := ⟨Y, 2, none⟩) hYV).trans r3
              have s4 := (HB5.out.cell (p := ⟨Y, 3, none⟩) hYV).trans r4
              have s5 := (HB5.out.cell (p := ⟨Y, 4, none⟩) hYV).trans r5
              have s6 := (HB5.out.cell (p := ⟨Y, 5, none⟩) hYV).trans r6
              have y0 := (HB5.out.cell (p := ⟨Z, 0, none⟩) hZ).trans v0
              have y1 := (HB5.out.cell (p := ⟨Z, 1, none⟩) hZ).trans v1
              have y2 := (HB5.out.cell (p := ⟨Z, 2, none⟩) hZ).trans v2
              have y3 := (HB5.out.cell (p := ⟨Z, 3, none⟩) hZ).trans v3
              have y4 := (HB5.out.cell (p := ⟨Z, 4, none⟩) hZ).trans v4
              have y5 := (HB5.out.cell (p := ⟨Z, 5, none⟩) hZ).trans v5
              go_wp2_with fail
              clear hHeld
              refine hK.out _ _ ?_ (fun hHeld => ?_)
              · ((try dsimp only); go_keep)
              clear hK K
              try simp only [Act.put, List.setIfInBounds_toArray, List.set_cons_zero, List.set_cons_succ]
              refine wpAnyH_take (i := 7) (oi := { dst := some 68, op := Op.binOp BinOp.neq 44 (Operand.tmp 61) (Operand.tmp 67) 44, type := 4, pos := "laws.go:627", after := #[{ on := 0, ground := Ground.data }, { on := 6, ground := Ground.data }], guard := none }) (v := ?_) rfl (by kernel_rfl) (by kernel_rfl) (by kernel_rfl) (fun _ _ _ h => h) (Or.inl ⟨by rfl, ?_⟩) (by assumption) ?_
              rotate_left
              · intro wq hSw
                (try dsimp only at hSw)
                go_simp
                try with_reducible rfl
              try simp only [Act.put, List.setIfInBounds_toArray, List.set_cons_zero, List.set_cons_succ]
              refine wpAnyH_take (i := 8) (oi := { dst := some 69, op := Op.move (Operand.tmp 68), type := 4, pos := "laws.go:627", after := #[{ on := 7, ground := Ground.data }, { on := 6, ground := Ground.chain }], guard := none }) (v := ?_) rfl (by kernel_rfl) (by kernel_rfl) (by kernel_rfl) (fun _ _ _ h => h) (Or.inl ⟨by rfl, ?_⟩) (by assumption) ?_
              rotate_left
              · intro wq hSw
                (try dsimp only at hSw)
                go_simp
                try with_reducible rfl
              try simp only [Act.put, List.setIfInBounds_toArray, List.set_cons_zero, List.set_cons_succ]
              refine wpAnyH_take (i := 9) (oi := { dst := some 70, op := Op.fieldAddr 44 (Operand.tmp 8) 0, type := 0, pos := "laws.go:627", after := #[{ on := 8, ground := Ground.guard }], guard := some (8, false) }) (v := ?_) rfl (by kernel_rfl) (by kernel_rfl) (by kernel_rfl) (fun _ _ _ h => h) (Or.inl ⟨by rfl, ?_⟩) (by assumption) ?_
              rotate_left
              · intro wq hSw
                (try dsimp only at hSw)
                go_simp
                try with_reducible rfl
              try simp only [Act.put, List.setIfInBounds_toArray, List.set_cons_zero, List.set_cons_succ]
              refine wpAnyH_take (i := 10) (oi := { dst := some 71, op := Op.load 4 (Operand.tmp 70), type := 4, pos := "laws.go:627", after := #[{ on := 9, ground := Ground.data }, { on := 8, ground := Ground.guard }], guard := some (8, false) }) (v := ?_) rfl (by kernel_rfl) (by kernel_rfl) (by kernel_rfl) (fun _ _ _ h => h) (Or.inl ⟨by rfl, ?_⟩) (by assumption) ?_
              rotate_left
              · intro wq hSw
                (try dsimp only at hSw)
                go_simp
                try with_reducible rfl
              try simp only [Act.put, List.setIfInBounds_toArray, List.set_cons_zero, List.set_cons_succ]
              refine wpAnyH_take (i := 11) (oi := { dst := some 72, op := Op.move (Operand.tmp 71), type := 4, pos := "laws.go:627", after := #[{ on := 10, ground := Ground.data }, { on := 8, ground := Ground.chain }, { on := 8, ground := Ground.guard }], guard := some (8, false) }) (v := ?_) rfl (by kernel_rfl) (by kernel_rfl) (by kernel_rfl) (fun _ _ _ h => h) (Or.inl ⟨by rfl, ?_⟩) (by assumption) ?_
              rotate_left
              · intro wq hSw
                (try dsimp only at hSw)
                go_simp
                try with_reducible rfl
              try simp only [Act.put, List.setIfInBounds_toArray, List.set_cons_zero, List.set_cons_succ]
              refine wpAnyH_take (i := 12) (oi := { dst := some 73, op := Op.load 44 (Operand.tmp 8), type := 44, pos := "laws.go:627", after := #[{ on := 11, ground := Ground.guard }], guard := some (11, true) }) (v := ?_) rfl (by kernel_rfl) (by kernel_rfl) (by kernel_rfl) (fun _ _ _ h => h) (Or.inl ⟨by rfl, ?_⟩) (by assumption) ?_
              rotate_left
              · intro wq hSw
                (try dsimp only at hSw)
                go_simp
                try with_reducible rfl
              try simp only [Act.put, List.setIfInBounds_toArray, List.set_cons_zero, List.set_cons_succ]
              refine wpAnyH_take (i := 13) (oi := { dst := some 74, op := Op.load 44 (Operand.tmp 6), type := 44, pos := "laws.go:627", after := #[{ on := 11, ground := Ground.guard }], guard := some (11, true) }) (v := ?_) rfl (by kernel_rfl) (by kernel_rfl) (by kernel_rfl) (fun _ _ _ h => h) (Or.inl ⟨by rfl, ?_⟩) (by assumption) ?_
              rotate_left
              · intro wq hSw
                (try dsimp only at hSw)
                go_simp
                try with_reducible rfl
              try simp only [Act.put, List.setIfInBounds_toArray, List.set_cons_zero, List.set_cons_succ]
              refine wpAnyH_take (i := 14) (oi := { dst := some 75, op := Op.binOp BinOp.neq 44 (Operand.tmp 73) (Operand.tmp 74) 44, type := 4, pos := "laws.go:627", after := #[{ on := 12, ground := Ground.data }, { on := 13, ground := Ground.data }, { on := 11, ground := Ground.guard }], guard := some (11, true) }) (v := ?_) rfl (by kernel_rfl) (by kernel_rfl) (by kernel_rfl) (fun _ _ _ h => h) (Or.inl ⟨by rfl, ?_⟩) (by assumption) ?_
              rotate_left
              · intro wq hSw
                (try dsimp only at hSw)
                go_simp
                try with_reducible rfl
              try simp only [Act.put, List.setIfInBounds_toArray, List.set_cons_zero, List.set_cons_succ]
              refine wpAnyH_take (i := 15) (oi := { dst := some 76, op := Op.pick (Operand.tmp 72) (Operand.tmp 75) (Operand.const (Value.bool false)), type := 4, pos := "laws.go:627", after := #[{ on := 11, ground := Ground.data }, { on := 14, ground := Ground.data }, { on := 8, ground := Ground.guard }], guard := some (8, false) }) (v := ?_) rfl (by kernel_rfl) (by kernel_rfl) (by kernel_rfl) (fun _ _ _ h => h) (Or.inl ⟨by rfl, ?_⟩) (by assumption) ?_
              rotate_left
              · intro wq hSw
                (try dsimp only at hSw)
                go_simp
                try with_reducible rfl
              try simp only [Act.put, List.setIfInBounds_toArray, List.set_cons_zero, List.set_cons_succ]
              refine wpAnyH_take (i := 16) (oi := { dst := some 77, op := Op.pick (Operand.tmp 69) (Operand.const (Value.bool true)) (Operand.tmp 76), type := 4, pos := "laws.go:627", after := #[{ on := 8, ground := Ground.data }, { on := 15, ground := Ground.data }], guard := none }) (v := ?_) rfl (by kernel_rfl) (by kernel_rfl) (by kernel_rfl) (fun _ _ _ h => h) (Or.inl ⟨by rfl, ?_⟩) (by assumption) ?_
              rotate_left
              · intro wq hSw
                (try dsimp only at hSw)
                go_simp
                try with_reducible rfl
              try simp only [Act.put, List.setIfInBounds_toArray, List.set_cons_zero, List.set_cons_succ]
              refine wpAnyH_take (i := 17) (oi := { dst := some 78, op := Op.move (Operand.tmp 77), type := 4, pos := "laws.go:627", after := #[{ on := 16, ground := Ground.data }, { on := 11, ground := Ground.chain }], guard := none }) (v := ?_) rfl (by kernel_rfl) (by kernel_rfl) (by kernel_rfl) (fun _ _ _ h => h) (Or.inl ⟨by rfl, ?_⟩) (by assumption) ?_
              rotate_left
              · intro wq hSw
                (try dsimp only at hSw)
                go_simp
                try with_reducible rfl
              try simp only [Act.put, List.setIfInBounds_toArray, List.set_cons_zero, List.set_cons_succ]
              refine wpAnyH_take (i := 18) (oi := { dst := some 79, op := Op.fieldAddr 44 (Operand.tmp 8) 0, type := 0, pos := "laws.go:627", after := #[{ on := 17, ground := Ground.guard }], guard := some (17, false) }) (v := ?_) rfl (by kernel_rfl) (by kernel_rfl) (by kernel_rfl) (fun _ _ _ h => h) (Or.inl ⟨by rfl, ?_⟩) (by assumption) ?_
              rotate_left
              · intro wq hSw
                (try dsimp only at hSw)
                go_simp
                try with_reducible rfl
              try simp only [Act.put, List.setIfInBounds_toArray, List.set_cons_zero, List.set_cons_succ]
              refine wpAnyH_take (i := 19) (oi := { dst := some 80, op := Op.load 4 (Operand.tmp 79), type := 4, pos := "laws.go:627", after := #[{ on := 18, ground := Ground.data }, { on := 17, ground := Ground.guard }], guard := some (17, false) }) (v := ?_) rfl (by kernel_rfl) (by kernel_rfl) (by kernel_rfl) (fun _ _ _ h => h) (Or.inl ⟨by rfl, ?_⟩) (by assumption) ?_
              rotate_left
              · intro wq hSw
                (try dsimp only at hSw)
                go_simp
                try with_reducible rfl
              try simp only [Act.put, List.setIfInBounds_toArray, List.set_cons_zero, List.set_cons_succ]
              refine wpAnyH_take (i := 20) (oi := { dst := some 81, op := Op.unOp UnOp.not 4 (Operand.tmp 80), type := 4, pos := "laws.go:627", after := #[{ on := 19, ground := Ground.data }, { on := 17, ground := Ground.guard }], guard := some (17, false) }) (v := ?_) rfl (by kernel_rfl) (by kernel_rfl) (by kernel_rfl) (fun _ _ _ h => h) (Or.inl ⟨by rfl, ?_⟩) (by assumption) ?_
              rotate_left
              · intro wq hSw
                (try dsimp only at hSw)
                go_simp
                try with_reducible rfl
              try simp only [Act.put, List.setIfInBounds_toArray, List.set_cons_zero, List.set_cons_succ]
              refine wpAnyH_take (i := 21) (oi := { dst := some 82, op := Op.move (Operand.tmp 81), type := 4, pos := "laws.go:627", after := #[{ on := 20, ground := Ground.data }, { on := 17, ground := Ground.chain }, { on := 17, ground := Ground.guard }], guard := some (17, false) }) (v := ?_) rfl (by kernel_rfl) (by kernel_rfl) (by kernel_rfl) (fun _ _ _ h => h) (Or.inl ⟨by rfl, ?_⟩) (by assumption) ?_
              rotate_left
              · intro wq hSw
                (try dsimp only at hSw)
                go_simp
                try with_reducible rfl
              try simp only [Act.put, List.setIfInBounds_toArray, List.set_cons_zero, List.set_cons_succ]
              refine wpAnyH_take (i := 22) (oi := { dst := some 83, op := Op.fieldAddr 44 (Operand.tmp 8) 3, type := 0, pos := "laws.go:627", after := #[{ on := 21, ground := Ground.guard }], guard := some (21, true) }) (v := undef) rfl (by kernel_rfl) (by kernel_rfl) (by kernel_rfl) (fun _ _ _ h => h) (Or.inr ⟨by rfl, rfl⟩) (by assumption) ?_
              try simp only [Act.put, List.setIfInBounds_toArray, List.set_cons_zero, List.set_cons_succ]
              refine wpAnyH_take (i := 23) (oi := { dst := some 84, op := Op.load 9 (Operand.tmp 83), type := 9, pos := "laws.go:627", after := #[{ on := 22, ground := Ground.data }, { on := 21, ground := Ground.guard }], guard := some (21, true) }) (v := undef) rfl (by kernel_rfl) (by kernel_rfl) (by kernel_rfl) (fun _ _ _ h => h) (Or.inr ⟨by rfl, rfl⟩) (by assumption) ?_
              try simp only [Act.put, List.setIfInBounds_toArray, List.set_cons_zero, List.set_cons_succ]
              refine wpAnyH_take (i := 24) (oi := { dst := some 85, op := Op.binOp BinOp.eql 9 (Operand.tmp 84) (Operand.const (Value.string { data := #[] })) 9, type := 4, pos := "laws.go:627", after := #[{ on := 23, ground := Ground.data }, { on := 21, ground := Ground.guard }], guard := some (21, true) }) (v := undef) rfl (by kernel_rfl) (by kernel_rfl) (by kernel_rfl) (fun _ _ _ h => h) (Or.inr ⟨by rfl, rfl⟩) (by assumption) ?_
              try simp only [Act.put, List.setIfInBounds_toArray, List.set_cons_zero, List.set_cons_succ]
              refine wpAnyH_take (i := 25) (oi := { dst := some 86, op := Op.pick (Operand.tmp 82) (Operand.tmp 85) (Operand.const (Value.bool false)), type := 4, pos := "laws.go:627", after := #[{ on := 21, ground := Ground.data }, { on := 24, ground := Ground.data }, { on := 17, ground := Ground.guard }], guard := some (17, false) }) (v := ?_) rfl (by kernel_rfl) (by kernel_rfl) (by kernel_rfl) (fun _ _ _ h => h) (Or.inl ⟨by rfl, ?_⟩) (by assumption) ?_
              rotate_left
              · intro wq hSw
                (try dsimp only at hSw)
                go_simp
                try with_reducible rfl
              try simp only [Act.put, List.setIfInBounds_toArray, List.set_cons_zero, List.set_cons_succ]
              refine wpAnyH_take (i := 26) (oi := { dst := some 87, op := Op.pick (Operand.tmp 78) (Operand.const (Value.bool true)) (Operand.tmp 86), type := 4, pos := "laws.go:627", after := #[{ on := 17, ground := Ground.data }, { on := 25, ground := Ground.data }], guard := none }) (v := ?_) rfl (by kernel_rfl) (by kernel_rfl) (by kernel_rfl) (fun _ _ _ h => h) (Or.inl ⟨by rfl, ?_⟩) (by assumption) ?_
              rotate_left
              · intro wq hSw
                (try dsimp only at hSw)
                go_simp
                try with_reducible rfl
              try simp only [Act.put, List.setIfInBounds_toArray, List.set_cons_zero, List.set_cons_succ]
              refine wpAnyH_take (i := 27) (oi := { dst := some 88, op := Op.move (Operand.tmp 87), type := 4, pos := "laws.go:627", after := #[{ on := 26, ground := Ground.data }, { on := 21, ground := Ground.chain }], guard := none }) (v := ?_) rfl (by kernel_rfl) (by kernel_rfl) (by kernel_rfl) (fun _ _ _ h => h) (Or.inl ⟨by rfl, ?_⟩) (by assumption) ?_
              rotate_left
              · intro wq hSw
                (try dsimp only at hSw)
                go_simp
                try with_reducible rfl
              try simp only [Act.put, List.setIfInBounds_toArray, List.set_cons_zero, List.set_cons_succ]
              refine wpAnyH_take (i := 28) (oi := { dst := some 89, op := Op.fieldAddr 44 (Operand.tmp 8) 4, type := 0, pos := "laws.go:627", after := #[{ on := 27, ground := Ground.guard }], guard := some (27, false) }) (v := ?_) rfl (by kernel_rfl) (by kernel_rfl) (by kernel_rfl) (fun _ _ _ h => h) (Or.inl ⟨by rfl, ?_⟩) (by assumption) ?_
              rotate_left
              · intro wq hSw
                (try dsimp only at hSw)
                go_simp
                try with_reducible rfl
              try simp only [Act.put, List.setIfInBounds_toArray, List.set_cons_zero, List.set_cons_succ]
              refine wpAnyH_take (i := 29) (oi := { dst := some 90, op := Op.load 3 (Operand.tmp 89), type := 3, pos := "laws.go:627", after := #[{ on := 28, ground := Ground.data }, { on := 27, ground := Ground.guard }], guard := some (27, false) }) (v := ?_) rfl (by kernel_rfl) (by kernel_rfl) (by kernel_rfl) (fun _ _ _ h => h) (Or.inl ⟨by rfl, ?_⟩) (by assumption) ?_
              rotate_left
              · intro wq hSw
                (try dsimp only at hSw)
                go_simp
                try with_reducible rfl
              try simp only [Act.put, List.setIfInBounds_toArray, List.set_cons_zero, List.set_cons_succ]
              refine wpAnyH_take (i := 30) (oi := { dst := some 91, op := Op.fieldAddr 44 (Operand.tmp 6) 4, type := 0, pos := "laws.go:627", after := #[{ on := 27, ground := Ground.guard }], guard := some (27, false) }) (v := ?_) rfl (by kernel_rfl) (by kernel_rfl) (by kernel_rfl) (fun _ _ _ h => h) (Or.inl ⟨by rfl, ?_⟩) (by assumption) ?_
              rotate_left
              · intro wq hSw
                (try dsimp only at hSw)
                go_simp
                try with_reducible rfl
              try simp only [Act.put, List.setIfInBounds_toArray, List.set_cons_zero, List.set_cons_succ]
              refine wpAnyH_take (i := 31) (oi := { dst := some 92, op := Op.load 3 (Operand.tmp 91), type := 3, pos := "laws.go:627", after := #[{ on := 30, ground := Ground.data }, { on := 27, ground := Ground.guard }], guard := some (27, false) }) (v := ?_) rfl (by kernel_rfl) (by kernel_rfl) (by kernel_rfl) (fun _ _ _ h => h) (Or.inl ⟨by rfl, ?_⟩) (by assumption) ?_
              rotate_left
              · intro wq hSw
                (try dsimp only at hSw)
                go_simp
                try with_reducible rfl
              try simp only [Act.put, List.setIfInBounds_toArray, List.set_cons_zero, List.set_cons_succ]
              refine wpAnyH_take (i := 32) (oi := { dst := some 93, op := Op.binOp BinOp.gtr 3 (Operand.tmp 90) (Operand.tmp 92) 3, type := 4, pos := "laws.go:627", after := #[{ on := 29, ground := Ground.data }, { on := 31, ground := Ground.data }, { on := 27, ground := Ground.guard }], guard := some (27, false) }) (v := ?_) rfl (by kernel_rfl) (by kernel_rfl) (by kernel_rfl) (fun _ _ _ h => h) (Or.inl ⟨by rfl, ?_⟩) (by assumption) ?_
              rotate_left
              · intro wq hSw
                (try dsimp only at hSw)
                go_simp
                try with_reducible rfl
              try simp only [Act.put, List.setIfInBounds_toArray, List.set_cons_zero, List.set_cons_succ]
              refine wpAnyH_take (i := 33) (oi := { dst := some 94, op := Op.pick (Operand.tmp 88) (Operand.const (Value.bool true)) (Operand.tmp 93), type := 4, pos := "laws.go:627", after := #[{ on := 27, ground := Ground.data }, { on := 32, ground := Ground.data }], guard := none }) (v := ?_) rfl (by kernel_rfl) (by kernel_rfl) (by kernel_rfl) (fun _ _ _ h => h) (Or.inl ⟨by rfl, ?_⟩) (by assumption) ?_
              rotate_left
              · intro wq hSw
                (try dsimp only at hSw)
                go_simp
                try with_reducible rfl
              try simp only [Act.put, List.setIfInBounds_toArray, List.set_cons_zero, List.set_cons_succ]
              refine wpAnyH_done (by kernel_rfl) ?_ _
              have hBN : Below w3.heap.size w3 w5 := hbr.out.trans ((HBV.out.trans (HB5.out.mono HBV.out.size)).mono hzr)
              clear hHeld
              go_wp2
              go_roundw
              case rel => exact ⟨j + 1, by omega, by go_num, hBN⟩
              case measure => simp [intOf]; omega
        · go_wp2
          go_ret
          exact ⟨rfl, HBR.out⟩
end Go.Proofs.YtignmnbgedmfbaaDoor
namespace Go.Proofs.YtignmnbgedmfbaaDoor.fnNext
open Go.ChangeShapes Go.WideShapes Go.ChangeAt Go.RowKit
open Go.ChangeMaps (open_string shut_string)
set_option linter.unusedVariables false

/-- WHAT THE WALK IS TOLD OF A SLICE OF INTEGERS THAT CAME IN: it is nil; or it leads to a row of 'cap' cells, the numbers 'zs' (the first 'len' are its elements, the rest its spare room), each fitting its kind. -/
def IsRow (k : IntKind) (w : World) (a : Option Addr) (len cap : Nat) (zs : List Int) : Prop :=
  (a = none ∧ len = 0 ∧ cap = 0 ∧ zs = []) ∨
  ∃ x, a = some x ∧ len ≤ cap ∧ cap ≤ maxLen ∧ zs.length = cap ∧ (∀ i, i < zs.length → w.cell? (x.add i) = some (.int k (zs.getD i 0))) ∧ ∀ n ∈ zs, (Lit.int k n).wf = true

theorem bytes_of_row {w : World} {a : Option Addr} {len cap : Nat} {zs : List Int} (h : IsRow .u8 w a len cap zs) : BytesAt w a len ∧ len ≤ cap ∧ len ≤ maxLen := by
  rcases h with ⟨rfl, rfl, rfl, rfl⟩ | ⟨x, rfl, hl, hm, hz, hcell, hwz⟩
  · exact ⟨.inl rfl, Nat.le_refl _, Nat.zero_le _⟩
  · refine ⟨?_, hl, by omega⟩
    rcases Nat.eq_zero_or_pos len with h0 | h0
    · exact .inl h0
    · obtain ⟨b, off, spot⟩ := x
      have hc := hcell 0 (by omega)
      have hspot : spot = none := by simpa [Addr.add] using World.cell?_spot hc
      subst hspot
      have hadd : ∀ i, (⟨b, off, none⟩ : Addr).add i = ⟨b, off + i, none⟩ := fun i => by unfold Addr.add; split <;> simp_all
      refine .inr ⟨b, off, rfl, fun i hi => ⟨zs.getD i 0, ?_, by rw [← hadd i]; exact hcell i (by omega)⟩⟩
      have hi' : i < zs.length := by omega
      have e : zs.getD i 0 = zs[i] := by simp [hi']
      rw [e]
      have := hwz _ (List.getElem_mem hi')
      simpa [Lit.wf, IntKind.min, IntKind.max, IntKind.signed, IntKind.bits] using this
theorem max_of_shaped {w : World} (h : w.ShapedOpen Tryd.prog) : MaxAt w := by
  obtain ⟨m, hm⟩ := Go.Proofs.cell_of_shapedOpen_int (g := 1) (zero := #[.int .i64 0]) (t := 3) h (of_decide_eq_true (by kernel_rfl)) (by kernel_rfl) rfl (by kernel_rfl) (by kernel_rfl) Tryd.underlying3
  refine ⟨?_, m, hm⟩
  rcases Nat.lt_or_ge 1 w.heap.size with h1 | h1
  · exact h1
  · simp [World.cell?, Array.getElem?_eq_none h1] at hm
/-- The cells that a table's datum is. -/
def cell1 : DataW Unit → Value
  | .lit (.int k n) => .int k n
  | .lit (.bool b) => .bool b
  | .lit (.string l) => .string ⟨l.toArray⟩
  | _ => .bool false
def cells1 : DataW Unit → List Value
  | .agg es => es.map cell1
  | d => [cell1 d]
def cells2 : DataW Unit → Array Value
  | .agg ds => (ds.flatMap cells1).toArray
  | _ => #[]
theorem own : ownKnob Tryd.prog.godebug = none := by kernel_rfl

set_option maxHeartbeats 1000000 in
set_option maxRecDepth 100000 in
theorem contract (H : Type) (enc : TypeId × Value → H) (W : World) (base : Nat) (args : Array Value) (ds gs : List (DataW H)) (before : List MemPlace)
    (hval : ∀ (j : Nat) t v, Tryd.f5.params[j]? = some t → args[j]? = some v → Value.okWide Tryd.prog W .any base t v)
    (hW : DataW.Whole enc Tryd.prog Tryd.f5.params.toList Rows.fnNextSpec.vars false W args.toList ds gs before) (hL : laidMetH Tryd.prog Rows.fnNextRow.laid W) (hSO : W.ShapedOpen Tryd.prog) :
    Calls Tryd.prog 5 args W fun e W' => ∃ v, e = .returned v ∧ Rows.fnNextSpec.post enc Tryd.prog Tryd.f5 false true false false W args v W' := by
  have hsh : ShapesAt W := by
    have hL' : laidMet Tryd.prog Rows.fnNextRow.laid W := hL
    exact shapes_of_reads (Go.Lib.laidMet.reads hL' (by simp [Rows.fnNextRow]))
  have hmx : MaxAt W := max_of_shaped hSO
  have hW' := hW
  obtain ⟨p, q, hA0, hV, rfl, hfz, hnd⟩ := hW
  have hA : DataW.TrodAll enc Tryd.prog W 0 (fun _ => true) true Tryd.f5.params.toList args.toList ds p := hA0
  rw [Tryd.params5] at hA hval
  obtain ⟨v0, vs0, d0, ds0, p0, q0, hargs, rfl, rfl, h0, r0⟩ := trodAll_cons hA
  obtain ⟨rfl, rfl, rfl⟩ := trodAll_nil r0
  obtain rfl : args = #[v0] := Array.ext' hargs
  have hV1 := hV
  obtain ⟨g1, t1, cs1, fuel1, dv, pv, rfl, hv1, hv2, hv3, hv4, rfl⟩ := trodVars_one hV
  obtain ⟨a0, len0, cap0, rfl⟩ := okWide_slice Tryd.underlying37 (hval 0 37 v0 rfl rfl)
  have k0 := h0
  have lt0 : ∀ x ∈ p0, x.block < W.heap.size := by obtain ⟨m, hm⟩ := k0; exact DataW.trod_lt m _ _ _ hm
  obtain ⟨z0, w0⟩ : ∃ zs, IsRow .u8 W a0 len0 cap0 zs := by
    obtain ⟨fuel, hf⟩ := h0
    rcases open_ints Tryd.underlying37 Tryd.underlying5 (by kernel_rfl) hf with ⟨hcs, _⟩ | ⟨x, l, c, zs, hcs, _, hl, hm, hz, _, hcell, hwz⟩
    · simp [Value.cells] at hcs
      obtain ⟨rfl, rfl, rfl⟩ := hcs
      exact ⟨[], .inl ⟨rfl, rfl, rfl, rfl⟩⟩
    · simp [Value.cells] at hcs
      obtain ⟨rfl, rfl, rfl⟩ := hcs
      exact ⟨zs, .inr ⟨_, rfl, hl, hm, by simpa using hz, hcell, hwz⟩⟩
  clear hA0
  obtain ⟨hBy, hc0, hm0⟩ := bytes_of_row w0
  unfold maxLen at hm0
  refine (c5 a0 len0 cap0 W (by omega) hc0 hBy hsh hmx).mono fun e W' ⟨he, bel⟩ => ?_
  subst he
  exact ⟨_, rfl, _, _, _, [], _, _, hW', trodAll_mk1 (shut_bool Tryd.underlying4 _), (trodAll_cons_mk (Below.trod laidOut (by kernel_rfl) (of_decide_eq_true (by kernel_rfl)) k0 bel lt0) trodAll_mk0), Below.trodVars laidOut bel (by kernel_rfl) hV1, bel.frame _, fun h => by cases h⟩

/-- A world for the witness: the settled one, the listed tables holding what their initialisers lay. -/
def withTab (g : Nat) (t : Array Value) (w : World) : World := { w with heap := w.heap.modify g fun
      | .cells _ ty frozen => .cells t ty frozen
      | o => o }
noncomputable def laidWorld (os : Os) : World := withTab 6 (cells2 Rows.laid_math_bits_deBruijn64tab) (withTab 5 (cells2 Rows.laid_math_bits_deBruijn32tab) (withTab 2 (cells2 Rows.laid_internal_strconv_uint64pow10) (withTab 3 (cells2 Rows.laid_unicode_utf8_first) (withTab 4 (cells2 Rows.laid_unicode_utf8_acceptRanges) (withTab 0 (cells2 Rows.laid_loop_example_kiln_impl_shapes) (World.holding Tryd.prog os ⟨#[], #[], []⟩))))))
set_option maxRecDepth 100000 in
theorem laid_met (os : Os) : laidMet Tryd.prog Rows.fnNextRow.laid ((laidWorld os).forCall (fun _ _ => 0) ⟨#[], #[.slice none 0 0], []⟩).memory :=
  laidMet_of_run' 8 (by kernel_rfl) (by kernel_rfl)
set_option maxRecDepth 100000 in
theorem reads (os : Os) {H : Type} (enc : TypeId × Value → H) : ∃ places, DataW.whole enc Tryd.prog ((laidWorld os).forCall (fun _ _ => 0) ⟨#[], #[.slice none 0 0], []⟩).memory Tryd.f5.params.toList Rows.fnNextSpec.vars false #[Value.slice none 0 0].toList 8 = some ([.nil], [Rows.laid_loop_example_kiln_impl_shapes], places) := by
  have h : (DataW.whole enc Tryd.prog ((laidWorld os).forCall (fun _ _ => 0) ⟨#[], #[.slice none 0 0], []⟩).memory Tryd.f5.params.toList Rows.fnNextSpec.vars false #[Value.slice none 0 0].toList 8).map (fun x => (x.1, x.2.1)) = some ([.nil], [Rows.laid_loop_example_kiln_impl_shapes]) := by kernel_rfl
  obtain ⟨⟨a, b, c⟩, e, h2⟩ := Option.map_eq_some_iff.1 h
  obtain ⟨rfl, rfl⟩ := Prod.mk.inj h2
  exact ⟨c, e⟩

set_option maxRecDepth 100000 in
theorem lifted (os : Os) (started : os.Started) (H : Type) (enc : TypeId × Value → H) (F : Stop.Interp) :
    ReturnsInHanded {} Tryd.checked os 5 .any ((OpenSpec.ofChange Rows.fnNextSpec).preRow enc Tryd.prog Tryd.f5 Rows.fnNextRow.domain false Rows.fnNextRow.laid) (((OpenSpec.ofChange Rows.fnNextSpec).at F).post enc Tryd.prog Tryd.f5 false true false false) := by
  obtain ⟨places, hx⟩ := reads os enc
  refine returnsInHanded_of_row (C := Tryd.checked) (s := OpenSpec.ofChange Rows.fnNextSpec) own started (by kernel_rfl) Tryd.func5
    (witness_row_at (enc := enc) (C := Tryd.checked) false (laidWorld os) #[.slice none 0 0] rfl (by kernel_rfl) (by kernel_rfl) (by kernel_rfl)
      (OpenSpec.preRow_of_cond 8 hx (by kernel_rfl) (fun k hk => by cases hk) (by kernel_rfl) (laid_met os))) ?_
  intro W base args ds gs before hval hW _ _ _ hL hSO _
  exact contract H enc W base args ds gs before hval hW hL hSO

theorem said : Rows.FnNextSaid :=
  OpenClaim.holds_of_cond 5 Tryd.f5 rfl rfl rfl rfl rfl rfl rfl ⟨rfl, rfl, rfl, rfl, rfl⟩ rfl rfl rfl rfl rfl (by kernel_rfl) Tryd.func5 (by kernel_rfl)
    (of_decide_eq_true (by kernel_rfl)) (by unfold Func.isWrapper; first | (rw [if_pos (by decide +kernel)]; kernel_rfl) | (rw [if_neg (by decide +kernel)]; exact ⟨rfl, rfl⟩))
    (fun os started H enc _ F => by rw [OpenClaim.pre_eq_preRow]; exact lifted os started H enc F)

theorem plain (f : FuncId) (fn : Func) (hf : Tryd.pinned.checked.prog.funcNamed "loop.example/kiln/laws.FnNext" = some f) (hfn : Tryd.pinned.checked.prog.funcs[f]? = some fn) :
    false = Tryd.pinned.checked.prog.looks [] ∧ ∀ (j : Nat) t, fn.params[j]? = some t → Tryd.pinned.checked.prog.wantsStandIn t = false := by
  obtain rfl : f = 5 := Option.some.inj ((show Tryd.prog.funcNamed "loop.example/kiln/laws.FnNext" = some 5 by kernel_rfl).symm.trans hf) |>.symm
  obtain rfl : fn = Tryd.f5 := (Option.some.inj (Tryd.func5.symm.trans hfn)).symm
  refine ⟨by kernel_rfl, fun j t ht => ?_⟩
  rw [Tryd.params5] at ht
  obtain rfl : t = 37 := by simpa using Array.mem_of_getElem? ht
  exact (show Tryd.prog.wantsStandIn 37 = false by kernel_rfl)

theorem card : Rows.FnNextCardSaid :=
  Claim7.holds_tied_plain_at .later [] _ _ _ _ said (fun _ h => by cases h) (by kernel_rfl) (fun _ h => by cases h) fnNext_row_tie rfl ⟨rfl, rfl⟩ (by kernel_rfl) rfl plain (by kernel_rfl)
end Go.Proofs.YtignmnbgedmfbaaDoor.fnNext
namespace Go.Proofs.YtignmnbgedmfbaaDoor
theorem fnNext_holds : Rows.FnNextCardSaid := fnNext.card
#print axioms fnNext_holds
end Go.Proofs.YtignmnbgedmfbaaDoor
