import Derived.Test.YtckbjbnmlmhihaaC2
import Derived.Test.YtckbjbnmlmhihaaC4
import Derived.WalkKit
import Derived.ProofKit
import Derived.OpenShut
import Derived.ShutString
import Derived.ChangeOld
import Derived.SliceStrings
namespace Go.Proofs.Ytckbjbnmlmhihaa.fnExactClash
open Go.ChangeShapes Go.WideShapes Go.ChangeAt Go.RowKit
open Go.ChangeMaps (open_string shut_string)
set_option linter.unusedVariables false

theorem own : ownKnob Try.prog.godebug = none := by kernel_rfl

theorem cells9 : Try.prog.cellsOf 9 = 1 := by kernel_rfl

set_option maxHeartbeats 1000000 in
theorem walk (a : Option Addr) (cap : Nat) (ss : List ByteArray) (n : Int) (w : World) (hs : ∀ i, (ss.getD i ByteArray.empty).size ≤ 9223372036854775807) (hl : ss.length ≤ 9223372036854775807) (hat : StrsAt w a ss) :
    Calls Try.prog 7 #[.slice a ss.length cap, .int .i64 n] w fun e w' => e = .returned (.bool true) ∧ Below w.heap.size w w' := by
  have HAT : Hid (StrsAt w a ss) := hat
  clear hat
  go_enter Try.func7, Try.ntmps7
  go_wp2_with fail
  refine (c19 a cap ss w hs hl HAT.out).mono ?_
  rintro e w' ⟨⟨r, rfl, hr⟩, hw⟩
  obtain rfl := hw.symm
  by_cases hr0 : r < 0
  · clear hr
    go_wp2
    go_ret
    exact ⟨rfl, Below.refl _ _⟩
  · obtain ⟨hl1, hs1⟩ := hr (by omega)
    go_wp2_with fail
    refine (c20 a cap ss w hl1 HAT.out).mono ?_
    rintro e w1 ⟨⟨a1, rfl, h1⟩, hb1⟩
    have H1 : Hid (StrsAt w1 a1 ss) := h1
    clear h1
    go_wp2_with fail
    refine (c18 a1 ss.length ss n w1 (fun i => Nat.le_trans (hs1 i) (by omega)) (by omega) H1.out).mono ?_
    rintro e w2 ⟨⟨x, y, f, rfl, hc2⟩, hb2⟩
    have HC2 : Hid (IsClash ss n x y f) := hc2
    have hB2 : Below w.heap.size w w2 := hb1.trans (hb2.mono hb1.size)
    clear hc2
    go_wp2_with fail
    refine (c20 a cap ss w2 hl1 (strs_below HAT.out hB2)).mono ?_
    rintro e w3 ⟨⟨a3, rfl, h3⟩, hb3⟩
    have H3 : Hid (StrsAt w3 a3 ss) := h3
    have hB3 : Below w.heap.size w w3 := hB2.trans (hb3.mono hB2.size)
    clear h3
    go_wp2_with fail
    refine (c17 a3 ss.length ss n w3 (fun i => Nat.le_trans (hs1 i) (by omega)) (by omega) H3.out).mono ?_
    rintro e w4 ⟨⟨x', y', f', rfl, hc4⟩, hb4⟩
    obtain ⟨rfl, rfl, rfl⟩ := isClash_one HC2.out hc4
    have hB4 : Below w.heap.size w w4 := hB3.trans (hb4.mono hB3.size)
    have H4 : Hid (StrsAt w4 a3 ss) := strs_below H3.out hb4
    clear hc4
    go_wp2_with fail
    refine (c20 a cap ss w4 hl1 (strs_below HAT.out hB4)).mono ?_
    rintro e w5 ⟨⟨a5, rfl, h5⟩, hb5⟩
    have H5 : Hid (StrsAt w5 a5 ss) := h5
    have hB5 : Below w.heap.size w w5 := hB4.trans (hb5.mono hB4.size)
    clear h5
    go_wp2_with fail
    refine (c21 a3 a5 ss.length ss.length ss w5 hl1 (strs_below H4.out hb5) H5.out).mono ?_
    rintro e w6 ⟨rfl, hb6⟩
    go_wp2
    go_ret
    exact ⟨rfl, hB5.trans (hb6.mono hB5.size)⟩

/-- A slice of strings that came in. -/
theorem opened {H : Type} {enc : TypeId × Value → H} {W : World} {fuel : Nat} {a : Option Addr} {len cap : Nat} {x : DataW H × List MemPlace}
    (hf : DataW.trod enc Try.prog W 0 (fun _ => true) true fuel 34 [.slice a len cap] = some x) :
    ∃ ss : List ByteArray, ss.length = len ∧ len ≤ maxLen ∧ (∀ i, (ss.getD i ByteArray.empty).size ≤ maxLen) ∧ StrsAt W a ss := by
  rcases open_strings Try.underlying34 Try.underlying9 cells9 hf with ⟨hcs, _⟩ | ⟨ad, l, c, sa, hcs, _, hl, hm, hz, _, hcell, hws⟩
  · simp at hcs
    obtain ⟨rfl, rfl, rfl⟩ := hcs
    exact ⟨[], rfl, Nat.zero_le _, fun i => by simp, .inl rfl⟩
  · simp at hcs
    obtain ⟨rfl, rfl, rfl⟩ := hcs
    simp only [if_true] at hz
    have hlen : (sa.take len).length = len := by rw [List.length_take]; omega
    have hget : ∀ i, i < len → (sa.take len).getD i ByteArray.empty = sa.getD i ByteArray.empty := fun i hi => by
      simp [List.getD, hi]
    refine ⟨sa.take len, hlen, by omega, getD_small (fun i hi => ?_), ?_⟩
    · rw [hlen] at hi
      rw [hget i hi]
      have hi' : i < sa.length := by omega
      have e : sa.getD i ByteArray.empty = sa[i] := by simp [hi']
      rw [e]
      exact hws _ (List.getElem_mem hi')
    · rcases Nat.eq_zero_or_pos len with h0 | h0
      · exact .inl (by rw [h0]; rfl)
      · obtain ⟨b, off, spot⟩ := ad
        have hc := hcell 0 (by omega)
        have hspot : spot = none := by simpa [Addr.add] using World.cell?_spot hc
        subst hspot
        have hadd : ∀ i, (⟨b, off, none⟩ : Addr).add i = ⟨b, off + i, none⟩ := fun i => by unfold Addr.add; split <;> simp_all
        refine .inr ⟨b, off, rfl, ?_, fun i hi => ?_⟩
        · rw [hadd 0] at hc
          rcases Nat.lt_or_ge b W.heap.size with h | h
          · exact h
          · simp [World.cell?, Array.getElem?_eq_none h] at hc
        · rw [hlen] at hi
          rw [hget i hi, ← hadd i]
          exact hcell i (by omega)

set_option maxRecDepth 100000 in
theorem lifted (os : Os) (started : os.Started) (H : Type) (enc : TypeId × Value → H) :
    ReturnsInHanded {} Try.checked os 7 .any (Rows.fnExactClashSpec.pre6 enc Try.prog Try.f7 Rows.fnExactClashRow.domain false) (Rows.fnExactClashSpec.post enc Try.prog Try.f7 false true false false) := by
  refine returnsInHanded_of_change (C := Try.checked) own started (by kernel_rfl) Try.func7
    (ChangeSpec.witness6 (enc := enc) (C := Try.checked) false ⟨#[], #[.slice none 0 0, .int .i64 0], []⟩ 8 (by kernel_rfl) (by kernel_rfl) (by kernel_rfl) (by kernel_rfl)) ?_
  intro W base args ds gs before hval0 hW hcnd _
  have hval : ∀ (j : Nat) t v, Try.f7.params[j]? = some t → args[j]? = some v → Value.okWide Try.prog W .any base t v := hval0
  have hW' := hW
  obtain ⟨p, q, hA0, hV, rfl, hfz, hnd⟩ := hW
  have hA : DataW.TrodAll enc Try.prog W 0 (fun _ => true) true Try.f7.params.toList args.toList ds p := hA0
  rw [Try.params7] at hA hval
  obtain ⟨v0, vs0, d0, ds0, p0, q0, hargs, rfl, rfl, h0, r0⟩ := trodAll_cons hA
  obtain ⟨v1, vs1, d1, ds1, p1, q1, rfl, rfl, rfl, h1, r1⟩ := trodAll_cons r0
  obtain ⟨rfl, rfl, rfl⟩ := trodAll_nil r1
  obtain rfl : args = #[v0, v1] := by cases args; simp_all
  obtain ⟨rfl, rfl⟩ := trodVars_none hV
  obtain ⟨a0, len0, cap0, rfl⟩ := okWide_slice Try.underlying34 (hval 0 34 v0 rfl rfl)
  have k0 := h0
  have lt0 : ∀ x ∈ p0, x.block < W.heap.size := by obtain ⟨m, hm⟩ := k0; exact DataW.trod_lt m _ _ _ hm
  obtain ⟨fuel, hf⟩ := h0
  obtain ⟨ss, rfl, hl, hss, hat⟩ := opened hf
  obtain ⟨a1, rfl, rfl, rfl, w1⟩ := open_int Try.underlying3 (hval 1 3 v1 rfl rfl) h1
  clear hA0 hval0
  refine (walk a0 cap0 ss a1 W hss hl hat).mono fun e W' ⟨he, bel⟩ => ?_
  subst he
  exact ⟨_, rfl, _, _, _, [], _, [], hW', trodAll_mk1 (shut_bool Try.underlying4 _), (trodAll_cons_mk (Below.trod laidOut (by kernel_rfl) (of_decide_eq_true (by kernel_rfl)) k0 bel lt0) (trodAll_cons_mk (shut_int Try.underlying3 w1) trodAll_mk0)), rfl, bel.frame _, fun h => by cases h⟩

theorem over : Rows.fnExactClashRow.holds Try.pinned (OpenSpec.ofChange Rows.fnExactClashSpec) :=
  OpenClaim.holds_of_wide 7 Try.f7 rfl rfl rfl rfl rfl rfl rfl ⟨rfl, rfl, rfl, rfl, rfl⟩ rfl rfl rfl rfl rfl (by kernel_rfl) Try.func7 (by kernel_rfl)
    (of_decide_eq_true (by kernel_rfl)) (by unfold Func.isWrapper; first | (rw [if_pos (by decide +kernel)]; kernel_rfl) | (rw [if_neg (by decide +kernel)]; exact ⟨rfl, rfl⟩))
    (fun os started H enc _ => lifted os started H enc)

theorem proved : Rows.FnExactClashSaid :=
  over
end Go.Proofs.Ytckbjbnmlmhihaa.fnExactClash
namespace Go.Proofs.Ytckbjbnmlmhihaa
theorem fnExactClash_holds : Rows.FnExactClashSaid := fnExactClash.proved
end Go.Proofs.Ytckbjbnmlmhihaa
