import Derived.Test.YtejlfpolnddfdaaDoorB6
import Derived.Test.YtejlfpolnddfdaaDoorP6
import Derived.Test.YtejlfpolnddfdaaDoorJ4
namespace Go.Proofs.YtejlfpolnddfdaaDoor
open Go.RowKit
set_option maxHeartbeats 400000 in
theorem c98 (n : Int) (w : World) :
    Calls Tryd.prog 98 #[.int .i64 n] w fun e w' => e = .returned (.bool (decide (1 ≤ n ∧ n ≤ 200))) ∧ w' = w := by
  by_cases h1 : 1 ≤ n <;> by_cases h2 : n ≤ 200
  all_goals
    go_enter Tryd.func98, Tryd.ntmps98
    go_wp2
    all_goals go_ret
    all_goals exact ⟨by simp [*], rfl⟩
/-- An epoch and a count of edits. -/
def momOk (a b : Int) : Bool := decide (1 ≤ a ∧ a ≤ 200) && decide (0 ≤ b ∧ b ≤ 1000)
/-- A look is valid. -/
def LkOk (x : L4) : Prop := nameOk x.nm.data.toList = true ∧ ((x.has = true ∧ ((x.cd = 0 ∧ x.tx = ⟨#[]⟩) ∨ (x.cd = 4 ∧ x.tx = x.nm))) ∨ (x.has = false ∧ vr x.cd x.tx.data.toList = true))
def IsB (P : Prop) (e : Ending) : Prop := ∃ r, e = .returned (.bool r) ∧ (r = true ↔ P)
theorem isB_no {P : Prop} (h : ¬ P) : IsB P (.returned (.bool false)) := ⟨false, rfl, ⟨fun h => absurd h Bool.false_ne_true, fun k => absurd k h⟩⟩
theorem isB_yes {P : Prop} (h : P) : IsB P (.returned (.bool true)) := ⟨true, rfl, ⟨fun _ => h, fun _ => rfl⟩⟩
theorem ba_iff (x y : ByteArray) : x.toList = y.toList ↔ x = y := ⟨fun h => by
  rw [ByteArray.toList_eq, ByteArray.toList_eq] at h
  exact ByteArray.ext (Array.toList_inj.1 h), fun h => by rw [h]⟩
theorem ba_nil (x : ByteArray) : x.toList = [] ↔ x = ⟨#[]⟩ := by
  rw [ByteArray.toList_eq]
  exact ⟨fun h => ByteArray.ext (Array.toList_inj.1 h), fun h => by rw [h]⟩
theorem lk_name {x : L4} (h : nameOk x.nm.data.toList = false) : ¬ LkOk x := fun k => absurd (k.1.symm.trans h) (by decide)
theorem lk_ask {x : L4} (hn : nameOk x.nm.data.toList = true) (hh : x.has = false) : LkOk x ↔ vr x.cd x.tx.data.toList = true := by
  constructor
  · rintro ⟨_, ⟨h, _⟩ | ⟨_, h⟩⟩
    · rw [hh] at h; cases h
    · exact h
  · exact fun h => ⟨hn, .inr ⟨hh, h⟩⟩
theorem lk_has {x : L4} (hn : nameOk x.nm.data.toList = true) (hh : x.has = true) : LkOk x ↔ ((x.cd = 0 ∧ x.tx.toList = []) ∨ (x.cd = 4 ∧ x.tx.toList = x.nm.toList)) := by
  rw [ba_nil, ba_iff]
  constructor
  · rintro ⟨_, ⟨_, h⟩ | ⟨h, _⟩⟩
    · exact h
    · rw [hh] at h; cases h
  · exact fun h => ⟨hn, .inl ⟨hh, h⟩⟩
end Go.Proofs.YtejlfpolnddfdaaDoor
