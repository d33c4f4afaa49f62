import Derived.Test.YtggcgnfockpgmaaGreatDoorK3
namespace Go.Proofs.YtggcgnfockpgmaaGreatDoor
open Go.RowKit
open T (F2 f2z treeOk Asc FilesAt)

structure VarsZ (w : World) : Prop where
  vr : VarsR w
  gT : ∃ t v, w.cell? ⟨0, 0, none⟩ = some (.iface t v)
theorem VarsZ.below {w w' : World} (h : VarsZ w) (hb : Below w.heap.size w w') : VarsZ w' := by
  have hp := h.vr.mx.1
  obtain ⟨t, v, h0⟩ := h.gT
  exact ⟨h.vr.below hb, t, v, (hb.cell (p := ⟨0, 0, none⟩) (by show 0 < w.heap.size; omega)).trans h0⟩
theorem tree_text {fs : List F2} (h : treeOk fs) {i : Nat} (hi : i < fs.length) : (fs.getD i f2z).tx.size ≤ 300 := by
  have := h.2 i hi
  unfold T.stepOk at this
  simp only [Bool.and_eq_true] at this
  have h1 := this.1
  unfold T.fileOk at h1
  simp only [Bool.and_eq_true, decide_eq_true_eq] at h1
  have := h1.2
  omega
def Is19 (w : World) (fs : List F2) (e : Ending) (w' : World) : Prop := ∃ (ms : List M3) (v er : Value), e = .returned (.tuple #[v, er]) ∧ w'.ownsRow w.heap.size 48 3 v ms.length (mkCells ms) ∧ ((er = .nilIface ∧ IsPT fs ms) ∨ ((∃ n ty va, er = .iface 106 (.agg #[.int .i64 n, .iface ty va])) ∧ IsPT fs []))

set_option maxHeartbeats 4000000 in
set_option maxRecDepth 100000 in
theorem c40 (a : Option Addr) (cap : Nat) (fs : List F2) (w : World) (hok : treeOk fs) (hat : FilesAt w a fs) (hv : VarsZ w) :
    Calls Tryz.prog 40 #[.agg #[.slice a fs.length cap]] w fun e w' => Is19 w fs e w' ∧ Below w.heap.size w w' := by
  have HV : Hid (VarsZ w) := hv
  have HOK : Hid (treeOk fs) := hok
  have HAT : Hid (FilesAt w a fs) := hat
  have hl := hok.1
  have hm := T.asc_of hok
  have HM : Hid (Asc fs) := hm
  have hB0 : Below w.heap.size w (w.alloc (.cells #[.slice a fs.length cap] 31)) := (Below.refl _ _).alloc (Nat.le_refl _) _
  have h33 := c52 a cap fs planA _ hl (T.files_below hat hB0) hm
  clear hv hok hat hm
  unfold planA at h33
  go_enter Tryz.func40, Tryz.ntmps40
  go_wp2_with fail
  refine h33.mono ?_
  rintro e w1 ⟨⟨x, there, rfl, hx⟩, hb1⟩
  clear h33
  have hx1 : Below (w.heap.size + 1) (w.alloc (.cells #[.slice a fs.length cap] 31)) w1 := by have h := hb1; simp at h; exact h
  have hB1 : Below w.heap.size w w1 := hB0.trans (hx1.mono (by omega))
  have hz1 : w.heap.size + 1 ≤ w1.heap.size := by have := hx1.size; simpa using this
  have t1 : w1.cell? ⟨w.heap.size, 0, none⟩ = some (.slice a fs.length cap) := (hx1.cell (p := ⟨w.heap.size, 0, none⟩) (by simp)).trans (by simp [go_sem])
  clear hb1
  cases there
  · have HR : Hid (IsPT fs []) := by
      rcases hx with ⟨h, _⟩ | ⟨_, h⟩
      · cases h
      · exact .inr (.inl ⟨HOK.out, h, rfl⟩)
    clear hx
    go_wp2
    go_ret2
    exact ⟨⟨[], _, _, rfl, World.ownsRow_nil _ _ _ _, .inl ⟨rfl, HR.out⟩⟩, hB1.alloc hB1.size _⟩
  · have HX : Hid (∃ i, i < fs.length ∧ fs.getD i f2z = x ∧ x.nm = planA) := by
      rcases hx with ⟨_, h⟩ | ⟨h, _⟩
      · exact h
      · cases h
    have hxt : x.tx.size ≤ 300 := by
      obtain ⟨i, hi, rfl, _⟩ := HX.out
      exact tree_text HOK.out hi
    have HNO : Hid (∀ ks ok, IsPlan x.tx.data.toList ks ok → ¬ (ok = true ∧ FreeAll fs ks) → IsPT fs []) := fun ks ok hp hn => by
      obtain ⟨i, hi, rfl, hnm⟩ := HX.out
      exact .inr (.inr ⟨HOK.out, i, hi, hnm, ks, ok, hp, .inr ⟨hn, rfl⟩⟩)
    have HYES : Hid (∀ ks, IsPlan x.tx.data.toList ks true → FreeAll fs ks → IsPT fs ks) := fun ks hp hn => by
      obtain ⟨i, hi, rfl, hnm⟩ := HX.out
      exact .inr (.inr ⟨HOK.out, i, hi, hnm, ks, true, hp, .inl ⟨rfl, hn, rfl⟩⟩)
    clear hx HX
    have hA1 : Below w.heap.size w (w1.alloc (.cells #[.string x.nm, .string x.tx] 75)) := hB1.alloc hB1.size _
    go_wp2_with fail
    refine (c53 x.tx _ (by omega) (HV.out.below hA1).vr).mono ?_
    rintro e w2 ⟨⟨ms, v, er, rfl, hown, hor⟩, hb2⟩
    have hB2 : Below w.heap.size w w2 := hA1.trans (hb2.mono hA1.size)
    have hz2 : w1.heap.size + 1 ≤ w2.heap.size := by have := hb2.size; simpa using this
    have t2 : w2.cell? ⟨w.heap.size, 0, none⟩ = some (.slice a fs.length cap) := (hb2.cell (p := ⟨w.heap.size, 0, none⟩) (by simp; omega)).trans (past (by show w.heap.size < w1.heap.size; omega) t1 _)
    have hown2 : w2.ownsRow w.heap.size 48 3 v ms.length (mkCells ms) := owns_mono hown (by simp; omega)
    clear hown hb2
    obtain ⟨ao, co, hvv⟩ := row_form3 hown2
    subst hvv
    rcases hor with ⟨rfl, hp⟩ | ⟨⟨n, ty, va, rfl⟩, hp⟩
    · have HP : Hid (IsPlan x.tx.data.toList ms true) := hp
      obtain ⟨hml, hms⟩ := isPlan_len hp
      clear hp
      go_wp2_with fail
      go_loopw [30] (fun i wr => ∃ (k : Nat), k ≤ ms.length ∧ i = .int .i64 k ∧ Hid (∀ j, j < k → Free fs (ms.getD j m3z).nm) ∧ Below w2.heap.size w2 wr) (fun i _ => ms.length - (intOf i).toNat)
      case atStart => exact ⟨0, Nat.zero_le _, rfl, fun j h => absurd h (Nat.not_lt_zero _), Below.refl _ _⟩
      case round =>
        obtain ⟨k, hk, rfl, hfr, hbr⟩ := hrel
        have hBr : Below w.heap.size w wr := hB2.trans (hbr.mono hB2.size)
        have hownr := ownsRow_below hown2 hbr
        have hzr : w2.heap.size ≤ wr.heap.size := hbr.size
        have tr : wr.cell? ⟨w.heap.size, 0, none⟩ = some (.slice a fs.length cap) := (hbr.cell (p := ⟨w.heap.size, 0, none⟩) (by show w.heap.size < w2.heap.size; omega)).trans t2
        by_cases hlt : k < ms.length
        · obtain ⟨ao', co', hv', hatm⟩ := own3_form hownr
          injection hv' with e1 e2 e3
          subst e1 e3
          obtain ⟨b, off, hc⟩ := mks_some hatm
          rcases hc with hss | ⟨hao, hbw, hcell⟩
          · rw [hss] at hlt; exact absurd hlt (Nat.not_lt_zero _)
          subst hao
          obtain ⟨g0, g1, g2⟩ := hcell k hlt
          have HX : Hid (∃ y, y = ms.getD k m3z) := ⟨_, rfl⟩
          obtain ⟨y, hy⟩ := HX.out
          rw [← hy] at g0 g1 g2
          have HY : Hid (y = ms.getD k m3z) := hy
          clear hy HX hcell hatm
          have hAr : ∀ o, Below w.heap.size w (wr.alloc o) := fun o => hBr.alloc hBr.size _
          have h35 := fun o => T.c54 a cap fs y.nm (wr.alloc o) hl (T.files_below HAT.out (hAr o)) HM.out
          have tr' := past (by show w.heap.size < wr.heap.size; omega) tr
          go_wp2_with fail
          refine (h35 _).mono ?_
          rintro e w3 ⟨⟨p, f, rfl, hp⟩, hb3⟩
          obtain ⟨P1, P2⟩ := place_free HM.out hp
          have hbr3 : Below w2.heap.size w2 w3 := (hbr.alloc hzr _).trans (hb3.mono (by simp; omega))
          have hB3 : Below w.heap.size w w3 := hB2.trans (hbr3.mono hB2.size)
          clear h35 hp hb3
          cases f
          · have hfr' : Hid (∀ j, j < k + 1 → Free fs (ms.getD j m3z).nm) := fun j hj => by
              rcases Nat.lt_or_ge j k with h | h
              · exact hfr.out j h
              · obtain rfl : j = k := by omega
                rw [← HY.out]; exact P2 rfl
            clear P1 P2
            go_wp2
            go_roundw
            case rel => exact ⟨k + 1, by omega, by go_num, hfr', hbr3⟩
            case measure => simp [intOf]; omega
          · have HR : Hid (IsPT fs []) := by
              refine HNO.out _ _ HP.out (fun h => ?_)
              obtain ⟨i, _, hi, hn⟩ := P1 rfl
              have := h.2 k hlt i hi
              rw [← HY.out] at this
              exact this hn
            obtain ⟨t5, v5, g5⟩ := (HV.out.below hB3).gT
            clear P1 P2 HNO HYES
            go_wp2_with fail
            try go_region
            all_goals go_wp2
            all_goals go_ret2
            all_goals exact ⟨⟨[], _, _, rfl, World.ownsRow_nil _ _ _ _, .inr ⟨⟨_, _, _, rfl⟩, HR.out⟩⟩, by first | exact hB3 | exact hB3.drew⟩
        · obtain rfl : k = ms.length := by omega
          have HR : Hid (IsPT fs ms) := HYES.out _ HP.out (fun i hi => hfr.out i hi)
          clear HNO HYES
          go_wp2
          go_ret2
          exact ⟨⟨ms, _, _, rfl, hownr, .inl ⟨rfl, HR.out⟩⟩, hBr⟩
    · have HR : Hid (IsPT fs []) := HNO.out _ _ hp (by simp)
      clear hp HNO HYES
      go_wp2
      go_ret2
      exact ⟨⟨[], _, _, rfl, World.ownsRow_nil _ _ _ _, .inr ⟨⟨n, ty, va, rfl⟩, HR.out⟩⟩, hB2⟩
end Go.Proofs.YtggcgnfockpgmaaGreatDoor
