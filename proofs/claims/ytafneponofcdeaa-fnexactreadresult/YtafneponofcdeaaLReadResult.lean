import Derived.Test.YtafneponofcdeaaC4
import Derived.WalkKit
import Derived.ProofKit
import Derived.OpenShut
import Derived.ShutString
import Derived.HandedShaped
import Derived.Shelf.Vars
namespace Go.Proofs.Ytafneponofcdeaa.fnExactReadResult
open Go.ChangeShapes Go.WideShapes Go.ChangeAt Go.RowKit
open Go.ChangeMaps (open_string shut_string)
set_option linter.unusedVariables false

theorem own : ownKnob Try.prog.godebug = none := by kernel_rfl
theorem max_of_shaped {w : World} (h : w.ShapedOpen Try.prog) : MaxAt w := by
  obtain ⟨m, hm⟩ := Go.Proofs.cell_of_shapedOpen_int (g := 0) (zero := #[.int .i64 0]) (t := 3) h (of_decide_eq_true (by kernel_rfl)) (by kernel_rfl) rfl (by kernel_rfl) (by kernel_rfl) Try.underlying3
  refine ⟨?_, m, hm⟩
  rcases Nat.lt_or_ge 0 w.heap.size with h1 | h1
  · exact h1
  · simp [World.cell?, Array.getElem?_eq_none h1] at hm

set_option maxHeartbeats 1000000 in
theorem walk (a0 : ByteArray) (w0 : a0.size ≤ maxLen) (w : World) (hm : MaxAt w) :
    Calls Try.prog 3 #[.string a0] w fun e w' => e = .returned (.bool true) ∧ Below w.heap.size w w' := by
  unfold maxLen at w0
  by_cases h : 1048576 < a0.size
  · go_enter Try.func3, Try.ntmps3
    go_wp2
    go_ret
    exact ⟨rfl, Below.refl _ _⟩
  · have h6 := c6 a0.data.toList
    rw [ofL_self] at h6
    go_enter Try.func3, Try.ntmps3
    go_wp2_with fail
    refine (c5 _ _ (by omega)).mono ?_
    rintro e w1 ⟨⟨c1, t1, k1, rfl, i1, _⟩, hb1⟩
    go_wp2_with fail
    have hB1 := hb1.alloc hb1.size (.cells #[.int .i64 c1, .string (ofL t1)] 23)
    refine (h6 _ (by simp; omega) (max_below hm hB1)).mono ?_
    rintro e w2 ⟨⟨c2, t2, k2, rfl, i2, _⟩, hb2⟩
    obtain ⟨rfl, rfl, rfl⟩ := isR_one i1 i2
    clear i1 i2 h6
    have hB2 := hB1.trans (hb2.mono (by simpa using hB1.size))
    have hz2 : w1.heap.size < w2.heap.size := by have := hb2.size; simp at this; omega
    have r0 : w2.cell? ⟨w1.heap.size, 0, none⟩ = some (.int .i64 c1) := by rw [hb2.cell (by simp)]; simp
    have r1 : w2.cell? ⟨w1.heap.size, 1, none⟩ = some (.string (ofL t1)) := by rw [hb2.cell (by simp)]; simp
    have r0' := past (by exact hz2) r0
    have r1' := past (by exact hz2) r1
    have hB2' := hB2.alloc hB2.size (.cells #[.int .i64 c1, .string (ofL t1)] 23)
    clear hb2
    go_wp2_with (go_at_call 7; refine (c7 _ _ _).mono ?_; rintro e w3 ⟨rfl, hb3⟩)
    all_goals go_ret
    all_goals exact ⟨rfl, hB2'.trans (hb3.mono hB2'.size)⟩

set_option maxRecDepth 100000 in
theorem lifted (os : Os) (started : os.Started) (H : Type) (enc : TypeId × Value → H) :
    ReturnsInHanded {} Try.checked os 3 .any (Rows.fnExactReadResultSpec.pre6 enc Try.prog Try.f3 Rows.fnExactReadResultRow.domain false) (Rows.fnExactReadResultSpec.post enc Try.prog Try.f3 false true false false) := by
  refine returnsInHanded_of_change_shaped (C := Try.checked) own started (by kernel_rfl) Try.func3
    (ChangeSpec.witness6 (enc := enc) (C := Try.checked) false ⟨#[], #[.string ByteArray.empty], []⟩ 8 (by kernel_rfl) (by kernel_rfl) (by kernel_rfl) (by kernel_rfl)) ?_
  intro W base args ds gs before hval0 hW hcnd _ hSO _
  have hval : ∀ (j : Nat) t v, Try.f3.params[j]? = some t → args[j]? = some v → Value.okWide Try.prog W .any base t v := hval0
  have hW' := hW
  obtain ⟨p, q, hA0, hV, rfl, hfz, hnd⟩ := hW
  have hA : DataW.TrodAll enc Try.prog W 0 (fun _ => true) true Try.f3.params.toList args.toList ds p := hA0
  rw [Try.params3] at hA hval
  obtain ⟨v0, vs0, d0, ds0, p0, q0, hargs, rfl, rfl, h0, r0⟩ := trodAll_cons hA
  obtain ⟨rfl, rfl, rfl⟩ := trodAll_nil r0
  obtain rfl : args = #[v0] := by cases args; simp_all
  obtain ⟨rfl, rfl⟩ := trodVars_none hV
  obtain ⟨a0, rfl, rfl, rfl, w0⟩ := open_string Try.underlying9 (hval 0 9 v0 rfl rfl) h0
  clear hA0 hval0
  refine (walk a0 w0 W (max_of_shaped hSO)).mono fun e W' ⟨he, bel⟩ => ?_
  subst he
  exact ⟨_, rfl, _, _, _, [], [], [], hW', trodAll_mk1 (shut_bool Try.underlying4 _), (trodAll_cons_mk (shut_string Try.underlying9 w0) trodAll_mk0), rfl, bel.frame _, fun h => by cases h⟩

theorem over : Rows.fnExactReadResultRow.holds Try.pinned (OpenSpec.ofChange Rows.fnExactReadResultSpec) :=
  OpenClaim.holds_of_wide 3 Try.f3 rfl rfl rfl rfl rfl rfl rfl ⟨rfl, rfl, rfl, rfl, rfl⟩ rfl rfl rfl rfl rfl (by kernel_rfl) Try.func3 (by kernel_rfl)
    (of_decide_eq_true (by kernel_rfl)) (by unfold Func.isWrapper; first | (rw [if_pos (by decide +kernel)]; kernel_rfl) | (rw [if_neg (by decide +kernel)]; exact ⟨rfl, rfl⟩))
    (fun os started H enc _ => lifted os started H enc)

theorem proved : Rows.FnExactReadResultSaid :=
  over
end Go.Proofs.Ytafneponofcdeaa.fnExactReadResult
namespace Go.Proofs.Ytafneponofcdeaa
theorem fnExactReadResult_holds : Rows.FnExactReadResultSaid := fnExactReadResult.proved
end Go.Proofs.Ytafneponofcdeaa
