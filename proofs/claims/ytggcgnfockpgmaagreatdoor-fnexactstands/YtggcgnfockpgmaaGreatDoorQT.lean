import Derived.Test.YtggcgnfockpgmaaGreatDoorQR
namespace Go.Proofs.YtggcgnfockpgmaaGreatDoor
open Go.RowKit
set_option maxHeartbeats 4000000 in
set_option maxRecDepth 100000 in
theorem c53_short (S : List UInt8) (w : World) (h300 : S.length ≤ 300) (hv : VarsR w) :
    Calls Tryz.prog 53 #[.string (ofL S)] w fun e w' => Is28 w S e w' ∧ Below w.heap.size w w' := by
  have HV : Hid (VarsR w) := hv
  clear hv
  have hz : (ofL S).size ≤ 300 := by rw [ofL_size]; exact h300
  obtain ⟨i0, hi, hz0, hz1, hz2⟩ := info_parts info48
  go_enter Tryz.func53, Tryz.ntmps53
  go_wp2_with fail
  go_loopw [4, 5] (fun v r wr => ∃ (l : List UInt8) (ms : List M3), r = .string (ofL l) ∧ Hid (Way S ms l) ∧ wr.ownsRow w.heap.size 48 3 v ms.length (mkCells ms) ∧ Below w.heap.size w wr) (fun _ r _ => strOf r)
  case atStart => exact ⟨S, [], rfl, way_start _, World.ownsRow_nil _ _ _ _, Below.refl _ _⟩
  case round =>
    obtain ⟨l, ms, rfl, hway, hown, hb⟩ := hrel
    have hVr : Hid (VarsR wr) := HV.out.below hb
    obtain ⟨hwl, hwt⟩ := way_len hway.out
    by_cases hl : l = []
    · subst hl
      have hnl : (ofL []).toList = [] := by rw [ByteArray.toList_eq]; rfl
      obtain ⟨W1, W2⟩ := way_end hway.out h300
      have HW1 : Hid (planOk ms = true → IsPlan S ms true) := W1
      have HW2 : Hid (planOk ms = false → IsPlan S [] false) := W2
      clear W1 W2
      obtain ⟨ao, cp, hv, hat⟩ := own3_form hown
      subst hv
      obtain ⟨u0, x0, k0⟩ := hVr.out.va.g0
      obtain ⟨u1, x1, k1⟩ := hVr.out.va.g1
      obtain ⟨u2, x2, k2⟩ := hVr.out.va.g2
      have HC := c67 ao cp ms wr (fun i => ⟨by have := (hwt i).1; omega, by have := (hwt i).2.1; omega, by have := (hwt i).2.2; omega⟩) (by omega) hat _ _ _ _ _ _ k0 k1 k2
      clear hat hway k0 k1 k2
      go_wp2_with fail
      refine HC.mono ?_
      rintro e w5 ⟨hck, hb5⟩
      have hB5 : Below w.heap.size w w5 := hb.trans (hb5.mono hb.size)
      have hown5 : w5.ownsRow w.heap.size 48 3 (.slice ao ms.length cp) ms.length (mkCells ms) := ownsRow_below hown hb5
      rcases hck with ⟨hk, rfl⟩ | ⟨hk, n, ty, va, rfl⟩
      · have HR : Hid (IsPlan S ms true) := HW1.out hk
        clear HW1 HW2 hk HC
        go_wp2
        go_ret2
        exact ⟨⟨ms, _, _, rfl, hown5, .inl ⟨rfl, HR.out⟩⟩, hB5⟩
      · have HR : Hid (IsPlan S [] false) := HW2.out hk
        clear HW1 HW2 hk HC
        go_wp2
        go_ret2
        exact ⟨⟨ms, _, _, rfl, hown5, .inr ⟨⟨n, ty, va, rfl⟩, HR.out⟩⟩, hB5⟩
    · have e0 : (ofL l).toList.isEmpty = false := by
        rw [ByteArray.toList_eq]
        cases l with
        | nil => exact absurd rfl hl
        | cons a r => rfl
      have e1 : ¬ (ofL l).toList = [] := fun h => by rw [h] at e0; cases e0
      obtain ⟨ao, cp, hv⟩ := row_form3 hown
      subst hv
      go_wp2_with fail
      refine (c65n l _ (by omega) hVr.out.mx).mono ?_
      rintro e w1 ⟨rfl, hb1⟩
      have hB1 : Below w.heap.size w w1 := hb.trans (hb1.mono hb.size)
      have hc := cut_10 l
      have hcl : (Lib.cut l [10]).1.length ≤ 300 := by
        rcases hc with ⟨_, h, _⟩ | ⟨_, h, _⟩
        · have := congrArg List.length h
          rw [List.length_append] at this; omega
        · rw [h]; omega
      have HC : Hid (((Lib.cut l [10]).2.2 = true ∧ l = (Lib.cut l [10]).1 ++ 10 :: (Lib.cut l [10]).2.1 ∧ (10 : UInt8) ∉ (Lib.cut l [10]).1) ∨ ((Lib.cut l [10]).2.2 = false ∧ (Lib.cut l [10]).1 = l ∧ (10 : UInt8) ∉ l)) := hc
      clear hc
      generalize (Lib.cut l [10]).1 = ca at *
      generalize (Lib.cut l [10]).2.1 = cb at *
      generalize (Lib.cut l [10]).2.2 = cf at *
      have hV1 : Hid (VarsR w1) := HV.out.below hB1
      cases cf
      · have HR : Hid (IsPlan S [] false) := by
          refine way_stuck hway.out hl (fun y q hy e => ?_)
          rcases HC.out with ⟨h1, _⟩ | ⟨_, _, h3⟩
          · cases h1
          · apply h3; rw [e]; simp
        obtain ⟨t4, v4, g4⟩ := hV1.out.g4
        clear HC hway
        go_wp2_with fail
        go_region
        all_goals go_wp2
        all_goals go_ret2
        all_goals exact ⟨is28_no _ _ _ HR.out, by first | exact hB1 | exact hB1.drew⟩
      · have HL : Hid (l = ca ++ 10 :: cb ∧ (10 : UInt8) ∉ ca) := by
          rcases HC.out with ⟨_, h⟩ | ⟨h, _⟩
          · exact h
          · cases h
        clear HC
        go_wp2_with fail
        refine (c65w ca _ (by omega) hV1.out.mx).mono ?_
        rintro e w2 ⟨⟨y2, rfl⟩, hb2⟩
        have hB2 : Below w.heap.size w w2 := hB1.trans (hb2.mono hB1.size)
        have hV2 : Hid (VarsR w2) := HV.out.below hB2
        have hrs := rest_small ca
        go_wp2_with fail
        refine (c66 _ _ (by omega) hV2.out.mx).mono ?_
        rintro e w3 ⟨⟨x, ok, rfl, hbody⟩, hb3⟩
        have hB3 : Below w.heap.size w w3 := hB2.trans (hb3.mono hB2.size)
        have hbr3 : Below wr.heap.size wr w3 := hb1.trans ((hb2.trans (hb3.mono hb2.size)).mono hb1.size)
        have hV3 : Hid (VarsR w3) := HV.out.below hB3
        have hown3 : w3.ownsRow w.heap.size 48 3 (.slice ao ms.length cp) ms.length (mkCells ms) := ownsRow_below hown hbr3
        have hz3 : w.heap.size ≤ w3.heap.size := hB3.size
        obtain ⟨t5, v5, g5⟩ := hV3.out.g5
        have g5' := past (by show 3 < w3.heap.size; have := hV3.out.mx.1; omega) g5
        have FAIL : Hid (¬ (wordOf ca = [109, 97, 107, 101] ∧ ok = true) → IsPlan S [] false) := by
          intro hf
          refine way_stuck hway.out hl (fun y q hy e => hf ?_)
          have hca := (split10 HL.out.2 (body_no10 hy) (HL.out.1.symm.trans e)).1
          obtain ⟨h1, h2⟩ := (line_is hy).1 hca
          refine ⟨h1, ?_⟩
          cases ok
          · exact absurd h2 (hbody.2 rfl y hy)
          · rfl
        have GO : Hid (wordOf ca = [109, 97, 107, 101] → ok = true → Way S (ms ++ [x]) cb ∧ cb.length < l.length) := by
          intro h1 h2
          obtain ⟨k1, k2⟩ := hbody.1 h2
          refine ⟨way_step (a := ca) (by rw [← HL.out.1]; exact hway.out) ⟨k1, (line_is k1).2 ⟨h1, k2⟩⟩, ?_⟩
          rw [HL.out.1]; simp; omega
        clear hbody hway HL hown hb1 hb2 hb3 g5
        by_cases hw : wordOf ca = [109, 97, 107, 101]
        · have e2 : (ofL (wordOf ca)).toList = [109, 97, 107, 101] := by rw [hw, ByteArray.toList_eq]; rfl
          have e3 : ((ofL (wordOf ca)).toList == [109, 97, 107, 101]) = true := by simpa using e2
          cases ok
          · have HR : Hid (IsPlan S [] false) := FAIL.out (by simp)
            clear FAIL GO hw
            unfold M3.v
            go_wp2_with fail
            go_region
            all_goals go_wp2
            all_goals go_ret2
            all_goals exact ⟨is28_no _ _ _ HR.out, by first | exact hB3.alloc hB3.size _ | exact (hB3.alloc hB3.size _).drew⟩
          · obtain ⟨hw1, hw2⟩ := GO.out hw rfl
            have HW : Hid (Way S (ms ++ [x]) cb) := hw1
            clear FAIL GO hw1 hw
            unfold M3.v
            go_wp2_with (at_builtin; refine wpList_append_own _ rfl _ _ 63 rfl w.heap.size 48 i0 (.agg #[.string ⟨#[]⟩, .string ⟨#[]⟩, .string ⟨#[]⟩]) 3 48 Tryz.underlying63 hi hz0 hz1 hz2 rfl (by decide) _ _ _ rfl ((hown3.alloc _).alloc _) ⟨w3.heap.size + 1, 0, none⟩ 1 1 [_, _, _] rfl rfl (row3g (by simp) _ _ _ _) (by intro u hu; simp at hu; rcases hu with rfl | rfl | rfl <;> rfl) (by unfold maxLen; omega) (by omega) (by simp; omega) ?_; intro v' w4 hown4 hgrow _; have HG : Hid (Below w.heap.size w w4) := ((hB3.alloc hB3.size _).alloc (by simp; omega) _).grown hgrow (by simp; omega) (fun k hk => (hown3.lt k hk).1); clear hgrow)
            go_roundw
            case rel =>
              refine ⟨cb, ms ++ [x], rfl, HW, ?_, HG.out⟩
              rw [mkCells_snoc, List.length_append]
              exact hown4
            case measure => simp only [strOf, ofL_size]; exact hw2
        · have HR : Hid (IsPlan S [] false) := FAIL.out (fun h => hw h.1)
          have e2 : ¬ (ofL (wordOf ca)).toList = [109, 97, 107, 101] := by rw [ByteArray.toList_eq]; simpa [ofL] using hw
          have e3 : ((ofL (wordOf ca)).toList == [109, 97, 107, 101]) = false := by simpa using e2
          clear FAIL GO
          unfold M3.v
          go_wp2_with fail
          go_region
          all_goals go_wp2
          all_goals go_ret2
          all_goals exact ⟨is28_no _ _ _ HR.out, by first | exact hB3.alloc hB3.size _ | exact (hB3.alloc hB3.size _).drew⟩
end Go.Proofs.YtggcgnfockpgmaaGreatDoor
