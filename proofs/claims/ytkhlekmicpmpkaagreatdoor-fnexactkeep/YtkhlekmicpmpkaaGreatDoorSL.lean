import Derived.Test.YtkhlekmicpmpkaaGreatDoorMD
namespace Go.Proofs.YtkhlekmicpmpkaaGreatDoor
open Go.RowKit Go.Maps
set_option linter.unusedVariables false
def wpL (P : Program) (md : Region.Mode) (ops : Array Oper) (Q : Exit → Act → World → Prop) (S : World → Prop) (T : Nat) : Nat → Array Bool → Act → World → Prop
 | 0, l, a, w => Region.ready md ops l = [] ∧ Q .normal a w
 | n + 1, l, a, w => (Region.ready md ops l = [] → Q .normal a w) ∧ ∀ i ∈ Region.ready md ops l, wpOp P ops Q i (fun a' w' => (i ≠ T → S w') ∧ wpL P md ops Q S T n (l.setIfInBounds i true) a' w') a w
section
variable {P : Program} {ops : Array Oper} {Q : Exit → Act → World → Prop} {md : Region.Mode} {S : World → Prop} {T : Nat}
theorem wpL_any (n : Nat) : ∀ (l : Array Bool) (a : Act) (w : World), wpL P md ops Q S T n l a w → wpAny P md ops Q n l a w := by
 induction n with
 | zero => exact fun _ _ _ h => h
 | succ n ih => exact fun _ _ _ h => ⟨h.1, fun i hi => wpOp_mono (fun a' w' h' => ih _ a' w' h'.2) (h.2 i hi)⟩
def waitsT (md : Region.Mode) (ops : Array Oper) (T i : Nat) : Bool := (ops[T]?).any fun o => o.after.any fun e => Region.binds md e && e.on == i
theorem not_yet {l : Array Bool} {T i : Nat} (hT : waitsT md ops T i = true) (hi : i ∈ Region.ready md ops l) : T ∉ Region.ready md ops l := fun h => by
 obtain ⟨_, o, ho, hall⟩ := mem_ready.1 h
 unfold waitsT at hT
 rw [ho] at hT
 simp only [Option.any_some, Array.any_eq_true] at hT
 obtain ⟨k, hk, hb⟩ := hT
 simp only [Bool.and_eq_true, beq_iff_eq] at hb
 have h1 := hall _ (Array.getElem_mem hk) hb.1
 have h0 := (mem_ready.1 hi).1
 rw [hb.2] at h1
 rcases Nat.lt_or_ge i l.size with h' | h'
 · simp [h'] at h0 h1; rw [h0] at h1; cases h1
 · simp [Array.getElem?_eq_none h'] at h1
theorem wpL_first {i : Nat} {oi : Oper} {v : Value} (hi : ops[i]? = some oi) (hT : waitsT md ops T i = true) (hsel : ∀ (j : Nat) (o : Oper) cs b, ops[j]? = some o → o.op ≠ .select cs b)
 (hQ : ∀ c a w, Q (.panic c) (a.put oi.dst v) w → Q (.panic c) a w) (n : Nat) : ∀ (l : Array Bool) (a : Act) (w : World),
  (∀ j oj, ops[j]? = some oj → j ≠ i → l.getD j true = false → (∀ e ∈ oj.after, Region.binds md e = true → e.on ≠ i) → oi.apart ops oj = true) →
  i ∈ Region.ready md ops l → YieldsIf P ops S oi v a → S w →
  wpL P md ops Q S T n (l.setIfInBounds i true) (a.put oi.dst v) w → wpL P md ops Q S T (n + 1) l a w := by
 have hnx : ∀ (l : Array Bool) j, i ∈ Region.ready md ops l → j ∈ Region.ready md ops l → j ≠ T := fun l j h1 h2 e => not_yet hT h1 (e ▸ h2)
 induction n with
 | zero =>
  refine fun l a w _ hr hy hS H => ⟨fun h => absurd (h ▸ hr) List.not_mem_nil, fun j hj => ?_⟩
  by_cases hji : j = i
  · subst hji; exact hy.wpOp hi hS ⟨fun _ => hS, H⟩
  · exact absurd (H.1 ▸ ready_mono hj hji) List.not_mem_nil
 | succ n ih =>
  refine fun l a w hfr hr hy hS H => ⟨fun h => absurd (h ▸ hr) List.not_mem_nil, fun j hj => ?_⟩
  by_cases hji : j = i
  · subst hji; exact hy.wpOp hi hS ⟨fun _ => hS, H⟩
  have hjT := hnx l j hr hj
  obtain ⟨hun, oj, hoj, hall⟩ := mem_ready.1 hj
  have hnw : ∀ e ∈ oj.after, Region.binds md e = true → e.on ≠ i := fun e he hb heq => by
   have h1 := hall e he hb
   have h0 := (mem_ready.1 hr).1
   rw [heq] at h1
   rcases Nat.lt_or_ge i l.size with h' | h'
   · simp [h'] at h0 h1; rw [h0] at h1; cases h1
   · simp [Array.getElem?_eq_none h'] at h1
  refine wpOp_mono (fun a' w' h => ?_) (wpOp_putIf hoj (hfr j oj hoj hji hun hnw) (fun cs b => hsel i oi cs b hi) (fun cs b => hsel j oj cs b hoj) hQ hy (H.2 j (ready_mono hj hji)))
  obtain ⟨hy', hs', hw'⟩ := h
  refine ⟨hs', ih _ a' w' (fun k ok hk hki hu hno => hfr k ok hk hki ?_ hno) (ready_mono hr (Ne.symm hji)) hy' (hs' hjT) ?_⟩
  · by_cases hjk : j = k
    · exact hjk ▸ hun
    · rwa [getD_set_ne true hjk] at hu
  · rw [Array.setIfInBounds_comm _ _ hji]
    exact hw'
theorem wpL_take {i : Nat} (hT : waitsT md ops T i = true) {oi : Oper} {v : Value} {n : Nat} {l : Array Bool} {a : Act} {w : World} (hi : ops[i]? = some oi)
 (hs : Region.noSelect ops = true) (hf : Region.free md ops l i = true) (hr : (Region.ready md ops l).contains i = true)
 (hQ : ∀ c a w, Q (.panic c) (a.put oi.dst v) w → Q (.panic c) a w) (hy : YieldsIf P ops S oi v a) (hS : S w)
 (h : wpL P md ops Q S T n (l.setIfInBounds i true) (a.put oi.dst v) w) : wpL P md ops Q S T (n + 1) l a w :=
 wpL_first hi hT (Region.noSelect_spec hs) hQ n l a w (Region.free_spec hi hf) (by simpa using hr) hy hS h
def AllReadyL (P : Program) (md : Region.Mode) (ops : Array Oper) (Q : Exit → Act → World → Prop) (S : World → Prop) (T n : Nat) (l : Array Bool) (a : Act) (w : World) (rs : List Nat) : Prop :=
 ∀ i ∈ rs, wpOp P ops Q i (fun a' w' => (i ≠ T → S w') ∧ wpL P md ops Q S T n (l.setIfInBounds i true) a' w') a w
theorem AllReadyL.nil {n : Nat} {l : Array Bool} {a : Act} {w : World} : AllReadyL P md ops Q S T n l a w [] := fun _ h => absurd h List.not_mem_nil
theorem AllReadyL.cons {n : Nat} {l : Array Bool} {a : Act} {w : World} {i : Nat} (hne : i ≠ T) {o : Oper} {rs : List Nat} (ho : ops[i]? = some o)
 (h : ∀ K' : Act → World → Prop, Shut (∀ a w, S w → (S w → wpL P md ops Q S T n (l.setIfInBounds i true) a w) → K' a w) → if Region.wanted o (yielded ops a.tmps) = true then Oper.wp P o a w K' Q else K' (a.put o.dst undef) w)
 (hs : AllReadyL P md ops Q S T n l a w rs) : AllReadyL P md ops Q S T n l a w (i :: rs) := fun j hj => by
 rcases List.mem_cons.1 hj with rfl | hj
 · exact wpOp_step ho (fun K' hK => h K' (fun a w hS hW => hK a w ⟨fun _ => hS, hW hS⟩))
 · exact hs j hj
theorem AllReadyL.last {n : Nat} {l : Array Bool} {a : Act} {w : World} {o : Oper} (ho : ops[T]? = some o)
 (h : ∀ K' : Act → World → Prop, Shut (∀ a w, wpL P md ops Q S T n (l.setIfInBounds T true) a w → K' a w) → if Region.wanted o (yielded ops a.tmps) = true then Oper.wp P o a w K' Q else K' (a.put o.dst undef) w) : AllReadyL P md ops Q S T n l a w [T] := fun j hj => by
 obtain rfl := List.mem_singleton.1 hj
 exact wpOp_step ho (fun K' hK => h K' (fun a w hW => hK a w ⟨fun e => absurd rfl e, hW⟩))
theorem wpL_ready {rs : List Nat} {n : Nat} {l : Array Bool} {a : Act} {w : World} (hr : Region.ready md ops l = rs) (hne : rs ≠ []) (h : AllReadyL P md ops Q S T n l a w rs) : wpL P md ops Q S T (n + 1) l a w :=
 ⟨fun h0 => absurd (hr ▸ h0) hne, hr ▸ h⟩
theorem wpL_done {l : Array Bool} {a : Act} {w : World} (hr : Region.ready md ops l = []) (h : Q .normal a w) (n : Nat) : wpL P md ops Q S T n l a w := by
 cases n with
 | zero => exact ⟨hr, h⟩
 | succ n => exact ⟨fun _ => h, by rw [hr]; simp⟩
theorem wp_region_L {id : Nat} {a : Act} {w : World} (T : Nat) (hm : P.follows .mixedOrders = true) (hS : S w.drew)
 (h : S w.drew → wpL P .any ops Q S T ops.size (Array.replicate ops.size false) a w.drew) : (Code.region id ops true).wp P Q a w :=
 wp_region_any hm (wpL_any _ _ _ _ (h hS))
end
end Go.Proofs.YtkhlekmicpmpkaaGreatDoor
