import Derived.Test.YtckbjbnmlmhihaaA4
import Derived.WalkKit
import Derived.ProofKit
import Derived.OpenShut
import Derived.ShutString
namespace Go.Proofs.Ytckbjbnmlmhihaa.fnExactTag
open Go.ChangeShapes Go.WideShapes Go.ChangeAt Go.RowKit
open Go.ChangeMaps (open_string shut_string)
set_option linter.unusedVariables false

theorem own : ownKnob Try.prog.godebug = none := by kernel_rfl

/-- What a tag is. -/
def tagS (b k : ByteArray) : ByteArray := if 30 < k.size then ByteArray.empty else strOfNums (outs (hsum (k ++ ⟨#[0]⟩ ++ b).data.toList) 8)
theorem cat_size (b k : ByteArray) : (k ++ ⟨#[0]⟩ ++ b).size = k.size + 1 + b.size := by
  rw [ByteArray.size_append, ByteArray.size_append]; rfl
theorem c24 (k : ByteArray) (w : World) (hk : k.size ≤ 1048576) :
    Calls Try.prog 24 #[.string k] w fun e w' => e = .returned (.bool (decide (k.size ≤ 30))) ∧ w' = w := by
  by_cases h : k.size ≤ 30
  all_goals
    go_enter Try.func24, Try.ntmps24
    go_wp2
    go_ret
    exact ⟨by simp [h]; try omega, rfl⟩

set_option maxHeartbeats 400000 in
theorem c8 (b k : ByteArray) (w : World) (hb : b.size ≤ 1048576) (hk : k.size ≤ 1048576) :
    Calls Try.prog 8 #[.string b, .string k] w fun e w' => e = .returned (.string (tagS b k)) ∧ Below w.heap.size w w' := by
  by_cases h : 30 < k.size
  · go_enter Try.func8, Try.ntmps8
    go_wp2
    go_ret
    exact ⟨by unfold tagS; rw [if_pos h]; rfl, Below.refl _ _⟩
  · have hT : Hid (tagS b k = strOfNums (outs (hsum (k ++ ⟨#[0]⟩ ++ b).data.toList) 8)) := by unfold tagS; rw [if_neg h]; rfl
    go_enter Try.func8, Try.ntmps8
    go_wp2_with fail
    refine (c23 _ _ (by rw [cat_size]; omega)).mono ?_
    rintro e w' ⟨rfl, rfl⟩
    have hx := hsum_range (k ++ ⟨#[0]⟩ ++ b).data.toList
    generalize hsum (k ++ ⟨#[0]⟩ ++ b).data.toList = X at *
    go_wp2_with fail
    refine (c22 X 8 _ hx.1 hx.2 (by omega)).mono ?_
    rintro e w1 ⟨rfl, hb1⟩
    go_wp2
    go_ret
    exact ⟨by rw [hT.out]; rfl, hb1⟩

set_option maxHeartbeats 400000 in
theorem c9 (b k : ByteArray) (w : World) (hb : b.size ≤ 1048576) (hk : k.size ≤ 1048576) :
    Calls Try.prog 9 #[.string b, .string k] w fun e w' => e = .returned (.string (tagS b k)) ∧ Below w.heap.size w w' := by
  by_cases h : 30 < k.size
  · have hd : decide (k.size ≤ 30) = false := by simpa using h
    go_enter Try.func9, Try.ntmps9
    go_wp2_with fail
    refine (c24 _ _ hk).mono ?_
    rintro e w' ⟨rfl, rfl⟩
    rw [hd]
    go_wp2
    go_ret
    exact ⟨by unfold tagS; rw [if_pos h]; rfl, Below.refl _ _⟩
  · have hd : decide (k.size ≤ 30) = true := by simpa using h
    have hT : Hid (tagS b k = sumS (k ++ ⟨#[0]⟩ ++ b) 8) := by unfold tagS sumS; rw [if_neg h, if_pos (by omega)]; rfl
    go_enter Try.func9, Try.ntmps9
    go_wp2_with fail
    refine (c24 _ _ hk).mono ?_
    rintro e w' ⟨rfl, rfl⟩
    rw [hd]
    go_wp2_with fail
    refine (c11 _ _ _ (by rw [cat_size]; omega)).mono ?_
    rintro e w1 ⟨rfl, hb1⟩
    go_wp2
    go_ret
    exact ⟨by rw [hT.out]; rfl, hb1⟩

set_option maxHeartbeats 400000 in
theorem walk (a0 a1 : ByteArray) (w0 : a0.size ≤ maxLen) (w1 : a1.size ≤ maxLen) (w : World) :
    Calls Try.prog 3 #[.string a0, .string a1] w fun e w' => e = .returned (.bool true) ∧ Below w.heap.size w w' := by
  unfold maxLen at w0 w1
  by_cases h : 1048576 < a0.size
  · go_enter Try.func3, Try.ntmps3
    go_wp2
    go_ret
    exact ⟨rfl, Below.refl _ _⟩
  by_cases h' : 1048576 < a1.size
  · go_enter Try.func3, Try.ntmps3
    go_wp2
    go_ret
    exact ⟨rfl, Below.refl _ _⟩
  · go_enter Try.func3, Try.ntmps3
    go_wp2_with fail
    refine (c8 _ _ _ (by omega) (by omega)).mono ?_
    rintro e w1 ⟨rfl, hb1⟩
    go_wp2_with fail
    refine (c9 _ _ _ (by omega) (by omega)).mono ?_
    rintro e w2 ⟨rfl, hb2⟩
    go_wp2
    go_ret
    exact ⟨rfl, hb1.trans (hb2.mono hb1.size)⟩

set_option maxRecDepth 100000 in
theorem lifted (os : Os) (started : os.Started) (H : Type) (enc : TypeId × Value → H) :
    ReturnsInHanded {} Try.checked os 3 .any (Rows.fnExactTagSpec.pre6 enc Try.prog Try.f3 Rows.fnExactTagRow.domain false) (Rows.fnExactTagSpec.post enc Try.prog Try.f3 false true false false) := by
  refine returnsInHanded_of_change (C := Try.checked) own started (by kernel_rfl) Try.func3
    (ChangeSpec.witness6 (enc := enc) (C := Try.checked) false ⟨#[], #[.string ByteArray.empty, .string ByteArray.empty], []⟩ 8 (by kernel_rfl) (by kernel_rfl) (by kernel_rfl) (by kernel_rfl)) ?_
  intro W base args ds gs before hval0 hW hcnd _
  have hval : ∀ (j : Nat) t v, Try.f3.params[j]? = some t → args[j]? = some v → Value.okWide Try.prog W .any base t v := hval0
  have hW' := hW
  obtain ⟨p, q, hA0, hV, rfl, hfz, hnd⟩ := hW
  have hA : DataW.TrodAll enc Try.prog W 0 (fun _ => true) true Try.f3.params.toList args.toList ds p := hA0
  rw [Try.params3] at hA hval
  obtain ⟨v0, vs0, d0, ds0, p0, q0, hargs, rfl, rfl, h0, r0⟩ := trodAll_cons hA
  obtain ⟨v1, vs1, d1, ds1, p1, q1, rfl, rfl, rfl, h1, r1⟩ := trodAll_cons r0
  obtain ⟨rfl, rfl, rfl⟩ := trodAll_nil r1
  obtain rfl : args = #[v0, v1] := by cases args; simp_all
  obtain ⟨rfl, rfl⟩ := trodVars_none hV
  obtain ⟨a0, rfl, rfl, rfl, w0⟩ := open_string Try.underlying9 (hval 0 9 v0 rfl rfl) h0
  obtain ⟨a1, rfl, rfl, rfl, w1⟩ := open_string Try.underlying9 (hval 1 9 v1 rfl rfl) h1
  clear hA0 hval0
  refine (walk a0 a1 w0 w1 W).mono fun e W' ⟨he, bel⟩ => ?_
  subst he
  exact ⟨_, rfl, _, _, _, [], [], [], hW', trodAll_mk1 (shut_bool Try.underlying4 _), (trodAll_cons_mk (shut_string Try.underlying9 w0) (trodAll_cons_mk (shut_string Try.underlying9 w1) trodAll_mk0)), rfl, bel.frame _, fun h => by cases h⟩

theorem over : Rows.fnExactTagRow.holds Try.pinned (OpenSpec.ofChange Rows.fnExactTagSpec) :=
  OpenClaim.holds_of_wide 3 Try.f3 rfl rfl rfl rfl rfl rfl rfl ⟨rfl, rfl, rfl, rfl, rfl⟩ rfl rfl rfl rfl rfl (by kernel_rfl) Try.func3 (by kernel_rfl)
    (of_decide_eq_true (by kernel_rfl)) (by unfold Func.isWrapper; first | (rw [if_pos (by decide +kernel)]; kernel_rfl) | (rw [if_neg (by decide +kernel)]; exact ⟨rfl, rfl⟩))
    (fun os started H enc _ => lifted os started H enc)

theorem proved : Rows.FnExactTagSaid :=
  over
end Go.Proofs.Ytckbjbnmlmhihaa.fnExactTag
namespace Go.Proofs.Ytckbjbnmlmhihaa
theorem fnExactTag_holds : Rows.FnExactTagSaid := fnExactTag.proved
end Go.Proofs.Ytckbjbnmlmhihaa
