import Derived.Test.YtggcgnfockpgmaaGreatDoorW2
import Derived.Test.YtggcgnfockpgmaaGreatDoorQM
namespace Go.Proofs.YtggcgnfockpgmaaGreatDoor
open Go.RowKit
open T (F2 f2z treeOk Asc)

/-- The name plan. -/
def planA : ByteArray := ⟨#[112, 108, 97, 110]⟩
/-- No file has the name. -/
def Free (fs : List F2) (nm : ByteArray) : Prop := ∀ j, j < fs.length → (fs.getD j f2z).nm ≠ nm
def FreeAll (fs : List F2) (ms : List M3) : Prop := ∀ i, i < ms.length → Free fs (ms.getD i m3z).nm
/-- What Plan answers. -/
def IsPT (fs : List F2) (ms : List M3) : Prop :=
  (¬ treeOk fs ∧ ms = []) ∨ (treeOk fs ∧ Free fs planA ∧ ms = []) ∨
  (treeOk fs ∧ ∃ i, i < fs.length ∧ (fs.getD i f2z).nm = planA ∧ ∃ ks ok, IsPlan (fs.getD i f2z).tx.data.toList ks ok ∧ ((ok = true ∧ FreeAll fs ks ∧ ms = ks) ∨ (¬ (ok = true ∧ FreeAll fs ks) ∧ ms = [])))
theorem name_once {fs : List F2} (h : treeOk fs) {i j : Nat} (hi : i < fs.length) (hj : j < fs.length) (e : (fs.getD i f2z).nm = (fs.getD j f2z).nm) : i = j := by
  have hm := T.asc_of h
  rcases Nat.lt_trichotomy i j with h1 | h1 | h1
  · have := hm i j h1 hj
    rw [e, T.lt_irrefl'] at this; cases this
  · exact h1
  · have := hm j i h1 hi
    rw [e, T.lt_irrefl'] at this; cases this
theorem isPT_one {fs : List F2} {ms ns : List M3} (h : IsPT fs ms) (k : IsPT fs ns) : ms = ns := by
  rcases h with ⟨h1, rfl⟩ | ⟨h1, h2, rfl⟩ | ⟨h1, i, hi, hn, ks, ok, hp, hr⟩
  · rcases k with ⟨_, rfl⟩ | ⟨k1, _⟩ | ⟨k1, _⟩
    · rfl
    · exact absurd k1 h1
    · exact absurd k1 h1
  · rcases k with ⟨k1, _⟩ | ⟨_, _, rfl⟩ | ⟨_, j, hj, hk, _⟩
    · exact absurd h1 k1
    · rfl
    · exact absurd hk (h2 j hj)
  · rcases k with ⟨k1, _⟩ | ⟨_, k2, _⟩ | ⟨_, j, hj, hk, ks', ok', hp', hr'⟩
    · exact absurd h1 k1
    · exact absurd hn (k2 i hi)
    · obtain rfl := name_once h1 hi hj (hn.trans hk.symm)
      obtain ⟨rfl, rfl⟩ := isPlan_one hp hp'
      rcases hr with ⟨a1, a2, rfl⟩ | ⟨a1, rfl⟩
      · rcases hr' with ⟨_, _, rfl⟩ | ⟨b1, _⟩
        · rfl
        · exact absurd ⟨a1, a2⟩ b1
      · rcases hr' with ⟨b1, b2, _⟩ | ⟨_, rfl⟩
        · exact absurd ⟨b1, b2⟩ a1
        · rfl
theorem isPlan_len {l : List UInt8} {ms : List M3} {ok : Bool} (h : IsPlan l ms ok) : ms.length ≤ 300 ∧ ∀ i, (ms.getD i m3z).le 300 := by
  cases ok
  · rw [(h.2 rfl).1]
    exact ⟨Nat.zero_le _, fun i => ⟨Nat.zero_le _, Nat.zero_le _, Nat.zero_le _⟩⟩
  · obtain ⟨h1, h2, h3⟩ := h.1 rfl
    have := lines_ge ms
    rw [h2] at this
    exact ⟨by omega, getD_smallM fun i hi => okM_le (getM_ok (plan_all h1) hi)⟩
theorem isPT_len {fs : List F2} {ms : List M3} (h : IsPT fs ms) : ms.length ≤ 300 := by
  rcases h with ⟨_, rfl⟩ | ⟨_, _, rfl⟩ | ⟨_, i, hi, hn, ks, ok, hp, hr⟩
  · exact Nat.zero_le _
  · exact Nat.zero_le _
  · rcases hr with ⟨_, _, rfl⟩ | ⟨_, rfl⟩
    · exact (isPlan_len hp).1
    · exact Nat.zero_le _
end Go.Proofs.YtggcgnfockpgmaaGreatDoor
