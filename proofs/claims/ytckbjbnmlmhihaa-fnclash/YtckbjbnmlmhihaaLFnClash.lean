import Derived.Test.YtckbjbnmlmhihaaD2
import Derived.Test.YtckbjbnmlmhihaaC2
import Derived.WalkKit
import Derived.ProofKit
import Derived.OpenShut
import Derived.ShutString
import Derived.ChangeOld
import Derived.Below
namespace Go.Proofs.Ytckbjbnmlmhihaa.fnClash
open Go.ChangeShapes Go.WideShapes Go.ChangeAt Go.RowKit
open Go.ChangeMaps (open_string shut_string)
set_option linter.unusedVariables false

theorem own : ownKnob Try.prog.godebug = none := by kernel_rfl

/-- WHAT THE WALK IS TOLD OF A SLICE OF INTEGERS THAT CAME IN: it is nil; or it leads to a row of 'cap' cells, the numbers 'zs' (the first 'len' are its elements, the rest its spare room), each fitting its kind. -/
def IsRow (k : IntKind) (w : World) (a : Option Addr) (len cap : Nat) (zs : List Int) : Prop :=
  (a = none ∧ len = 0 ∧ cap = 0 ∧ zs = []) ∨
  ∃ x, a = some x ∧ len ≤ cap ∧ cap ≤ maxLen ∧ zs.length = cap ∧ (∀ i, i < zs.length → w.cell? (x.add i) = some (.int k (zs.getD i 0))) ∧ ∀ n ∈ zs, (Lit.int k n).wf = true

theorem bytes_of_row {w : World} {a : Option Addr} {len cap : Nat} {zs : List Int} (h : IsRow .u8 w a len cap zs) : BytesAt w a len ∧ len ≤ cap ∧ len ≤ maxLen := by
  rcases h with ⟨rfl, rfl, rfl, rfl⟩ | ⟨x, rfl, hl, hm, hz, hcell, hwz⟩
  · exact ⟨.inl rfl, Nat.le_refl _, Nat.zero_le _⟩
  · refine ⟨?_, hl, by omega⟩
    rcases Nat.eq_zero_or_pos len with h0 | h0
    · exact .inl h0
    · obtain ⟨b, off, spot⟩ := x
      have hc := hcell 0 (by omega)
      have hspot : spot = none := by simpa [Addr.add] using World.cell?_spot hc
      subst hspot
      have hadd : ∀ i, (⟨b, off, none⟩ : Addr).add i = ⟨b, off + i, none⟩ := fun i => by unfold Addr.add; split <;> simp_all
      refine .inr ⟨b, off, rfl, fun i hi => ⟨zs.getD i 0, ?_, by rw [← hadd i]; exact hcell i (by omega)⟩⟩
      have hi' : i < zs.length := by omega
      have e : zs.getD i 0 = zs[i] := by simp [hi']
      rw [e]
      have := hwz _ (List.getElem_mem hi')
      simpa [Lit.wf, IntKind.min, IntKind.max, IntKind.signed, IntKind.bits] using this
theorem small_get {ss : List ByteArray} (h : small4 ss) (i : Nat) : (ss.getD i ByteArray.empty).size ≤ 4 :=
  getD_small (fun i hi => by
    have e : ss.getD i ByteArray.empty = ss[i] := by simp [hi]
    rw [e]; exact h _ (List.getElem_mem hi)) i
theorem clash_facts {ss : List ByteArray} {n : Int} {x y : ByteArray} (h : IsClash ss n x y true) : sumS x n = sumS y n ∧ x ≠ y ∧ ∃ i j, x = ss.getD i ByteArray.empty ∧ y = ss.getD j ByteArray.empty := by
  rcases h with ⟨h, _⟩ | ⟨_, _, i, j, _, _, hx, hy, hc, _⟩
  · cases h
  · rw [hx, hy]; exact ⟨hc.1, hc.2, i, j, rfl, rfl⟩

set_option maxHeartbeats 1000000 in
theorem walk (a0 : Option Addr) (len0 cap0 : Nat) (z0 : List Int) (w : World) (w0 : IsRow .u8 w a0 len0 cap0 z0) :
    Calls Try.prog 6 #[.slice a0 len0 cap0] w fun e w' => e = .returned (.bool true) ∧ Below w.heap.size w w' := by
  obtain ⟨hB, hc, hm⟩ := bytes_of_row w0
  unfold maxLen at hm
  clear w0
  by_cases hbig : 1048576 < len0
  · clear hB
    go_enter Try.func6, Try.ntmps6
    go_wp2
    go_ret
    exact ⟨rfl, Below.refl _ _⟩
  · have HB : Hid (BytesAt w a0 len0) := hB
    clear hB
    go_enter Try.func6, Try.ntmps6
    go_wp2_with fail
    refine (c16 a0 len0 cap0 w (by omega) hc HB.out).mono ?_
    rintro e w1 ⟨⟨a1, ss, cp, n, rfl, hst, hl, hsm⟩, hb1⟩
    have HS : Hid (StrsAt w1 a1 ss) := hst
    have HM : Hid (small4 ss) := hsm
    clear hst hsm
    go_wp2_with fail
    refine (c17 a1 cp ss n w1 (fun i => Nat.le_trans (small_get HM.out i) (by omega)) (by omega) HS.out).mono ?_
    rintro e w2 ⟨⟨x, y, f, rfl, hc2⟩, hb2⟩
    have HC2 : Hid (IsClash ss n x y f) := hc2
    have hB2 : Below w.heap.size w w2 := hb1.trans (hb2.mono hb1.size)
    clear hc2
    go_wp2_with fail
    refine (c18 a1 cp ss n w2 (fun i => Nat.le_trans (small_get HM.out i) (by omega)) (by omega) (strs_below HS.out hb2)).mono ?_
    rintro e w3 ⟨⟨x', y', f', rfl, hc3⟩, hb3⟩
    obtain ⟨rfl, rfl, rfl⟩ := isClash_one HC2.out hc3
    have hB3 : Below w.heap.size w w3 := hB2.trans (hb3.mono hB2.size)
    clear hc3
    cases f
    · go_wp2
      go_ret
      exact ⟨rfl, hB3⟩
    · obtain ⟨h1, h2, i, j, hi, hj⟩ := clash_facts HC2.out
      have hxs : x.size ≤ 4 := by rw [hi]; exact small_get HM.out i
      have hys : y.size ≤ 4 := by rw [hj]; exact small_get HM.out j
      have hne : (x.toList == y.toList) = false := neq_str h2
      have H1 : Hid (sumS x n = sumS y n) := h1
      clear h1 h2 hi hj
      go_wp2_with fail
      refine (c11 x n _ (by omega)).mono ?_
      rintro e w4 ⟨rfl, hb4⟩
      go_wp2_with fail
      refine (c11 y n _ (by omega)).mono ?_
      rintro e w5 ⟨rfl, hb5⟩
      rw [H1.out]
      go_wp2
      go_ret
      have hB4 := hB3.trans (hb4.mono hB3.size)
      exact ⟨rfl, hB4.trans (hb5.mono hB4.size)⟩

/-! ### THE ROW's STEP: WRITTEN OUT: LEAVE IT -/
set_option maxRecDepth 100000 in
theorem lifted (os : Os) (started : os.Started) (H : Type) (enc : TypeId × Value → H) :
    ReturnsInHanded {} Try.checked os 6 .any (Rows.fnClashSpec.pre6 enc Try.prog Try.f6 Rows.fnClashRow.domain false) (Rows.fnClashSpec.post enc Try.prog Try.f6 false true false false) := by
  refine returnsInHanded_of_change (C := Try.checked) own started (by kernel_rfl) Try.func6
    (ChangeSpec.witness6 (enc := enc) (C := Try.checked) false ⟨#[], #[.slice none 0 0], []⟩ 8 (by kernel_rfl) (by kernel_rfl) (by kernel_rfl) (by kernel_rfl)) ?_
  intro W base args ds gs before hval0 hW hcnd _
  have hval : ∀ (j : Nat) t v, Try.f6.params[j]? = some t → args[j]? = some v → Value.okWide Try.prog W .any base t v := hval0
  have hW' := hW
  obtain ⟨p, q, hA0, hV, rfl, hfz, hnd⟩ := hW
  have hA : DataW.TrodAll enc Try.prog W 0 (fun _ => true) true Try.f6.params.toList args.toList ds p := hA0
  rw [Try.params6] at hA hval
  obtain ⟨v0, vs0, d0, ds0, p0, q0, hargs, rfl, rfl, h0, r0⟩ := trodAll_cons hA
  obtain ⟨rfl, rfl, rfl⟩ := trodAll_nil r0
  obtain rfl : args = #[v0] := by cases args; simp_all
  obtain ⟨rfl, rfl⟩ := trodVars_none hV
  obtain ⟨a0, len0, cap0, rfl⟩ := okWide_slice Try.underlying33 (hval 0 33 v0 rfl rfl)
  have k0 := h0
  have lt0 : ∀ x ∈ p0, x.block < W.heap.size := by obtain ⟨m, hm⟩ := k0; exact DataW.trod_lt m _ _ _ hm
  obtain ⟨z0, w0⟩ : ∃ zs, IsRow .u8 W a0 len0 cap0 zs := by
    obtain ⟨fuel, hf⟩ := h0
    rcases open_ints Try.underlying33 Try.underlying5 (by kernel_rfl) hf with ⟨hcs, _⟩ | ⟨x, l, c, zs, hcs, _, hl, hm, hz, _, hcell, hwz⟩
    · simp [Value.cells] at hcs
      obtain ⟨rfl, rfl, rfl⟩ := hcs
      exact ⟨[], .inl ⟨rfl, rfl, rfl, rfl⟩⟩
    · simp [Value.cells] at hcs
      obtain ⟨rfl, rfl, rfl⟩ := hcs
      exact ⟨zs, .inr ⟨_, rfl, hl, hm, by simpa using hz, hcell, hwz⟩⟩
  clear hA0 hval0
  refine (walk a0 len0 cap0 z0 W w0).mono fun e W' ⟨he, bel⟩ => ?_
  subst he
  exact ⟨_, rfl, _, _, _, [], _, [], hW', trodAll_mk1 (shut_bool Try.underlying4 _), (trodAll_cons_mk (Below.trod laidOut (by kernel_rfl) (of_decide_eq_true (by kernel_rfl)) k0 bel lt0) trodAll_mk0), rfl, bel.frame _, fun h => by cases h⟩

theorem over : Rows.fnClashRow.holds Try.pinned (OpenSpec.ofChange Rows.fnClashSpec) :=
  OpenClaim.holds_of_wide 6 Try.f6 rfl rfl rfl rfl rfl rfl rfl ⟨rfl, rfl, rfl, rfl, rfl⟩ rfl rfl rfl rfl rfl (by kernel_rfl) Try.func6 (by kernel_rfl)
    (of_decide_eq_true (by kernel_rfl)) (by unfold Func.isWrapper; first | (rw [if_pos (by decide +kernel)]; kernel_rfl) | (rw [if_neg (by decide +kernel)]; exact ⟨rfl, rfl⟩))
    (fun os started H enc _ => lifted os started H enc)

/-- ████ THE STATEMENT ████ -/
theorem proved : Rows.FnClashSaid := over
end Go.Proofs.Ytckbjbnmlmhihaa.fnClash
namespace Go.Proofs.Ytckbjbnmlmhihaa
theorem fnClash_holds : Rows.FnClashSaid := fnClash.proved
end Go.Proofs.Ytckbjbnmlmhihaa
