import Derived.Test.YtckbjbnmlmhihaaD1
namespace Go.Proofs.Ytckbjbnmlmhihaa
open Go.RowKit

/-- Bytes that came in. -/
def BytesAt (w : World) (a : Option Addr) (L : Nat) : Prop :=
  L = 0 ∨ ∃ b off, a = some ⟨b, off, none⟩ ∧ ∀ i, i < L → ∃ z : Int, (0 ≤ z ∧ z ≤ 255) ∧ w.cell? ⟨b, off + i, none⟩ = some (.int .u8 z)
theorem rd_open {w : World} {a : Option Addr} {L cap : Nat} (h : BytesAt w a L) (hL : L ≤ 2000) : RdAt (w.alloc (.cells #[.slice a L cap, .int .i64 0] 64)) w.heap.size 0 := by
  refine ⟨a, L, cap, by simp, by simp, by simp, hL, ?_⟩
  rcases h with h | ⟨b, off, ha, hc⟩
  · exact .inl h
  · rcases Nat.eq_zero_or_pos L with h0 | h0
    · exact .inl h0
    · have hb : b < w.heap.size := by
        obtain ⟨z, _, hz⟩ := hc 0 h0
        exact cell_block hz
      refine .inr ⟨b, off, ha, hb, fun i hi => ?_⟩
      obtain ⟨z, hz, hcz⟩ := hc i hi
      exact ⟨z, hz, by rw [((Below.refl w.heap.size w).alloc (Nat.le_refl _) _).cell (by exact hb)]; exact hcz⟩

set_option maxHeartbeats 400000 in
theorem c33 (a : Option Addr) (L cap : Nat) (w : World) (hL : L ≤ 1048576) (hcap : L ≤ cap) (h : BytesAt w a L) :
    Calls Try.prog 33 #[.slice a L cap] w fun e w' => e = .returned (.pointer (some ⟨w.heap.size, 0, none⟩)) ∧ RdAt w' w.heap.size 0 ∧ Below w.heap.size w w' ∧ w'.heap.size = w.heap.size + 1 := by
  by_cases h2 : 2000 < L
  · have HR : Hid (RdAt (w.alloc (.cells #[.slice a 2000 cap, .int .i64 0] 64)) w.heap.size 0) := by
      refine rd_open ?_ (Nat.le_refl _)
      rcases h with h | ⟨b, off, ha, hc⟩
      · omega
      · exact .inr ⟨b, off, ha, fun i hi => hc i (by omega)⟩
    rcases h with h | ⟨b, off, rfl, hc⟩
    · omega
    clear hc
    go_enter Try.func33, Try.ntmps33
    go_wp2
    go_ret
    exact ⟨rfl, HR.out, (Below.refl _ _).alloc (Nat.le_refl _) _, by simp⟩
  · have HR : Hid (RdAt (w.alloc (.cells #[.slice a L cap, .int .i64 0] 64)) w.heap.size 0) := rd_open h (by omega)
    clear h
    go_enter Try.func33, Try.ntmps33
    go_wp2
    go_ret
    exact ⟨rfl, HR.out, (Below.refl _ _).alloc (Nat.le_refl _) _, by simp⟩

def small4 (ss : List ByteArray) : Prop := ∀ s ∈ ss, s.size ≤ 4
def strV (ss : List ByteArray) : List Value := ss.map Value.string

theorem conv3 {q : Nat} {u wd : World} {y1 y2 y3 : Int} (ho : OnlyAt q (u.alloc (.cells #[.int .u8 y1, .int .u8 y2, .int .u8 y3] 5)) wd) (hq : q < u.heap.size) (m : Nat) (hm : m ≤ 3) :
    (convert 33 9 (.slice (some ⟨u.heap.size, 0, none⟩) m 3)).run Try.prog wd = .ok (.string (strOfNums ([y1, y2, y3].take m))) wd :=
  run_convert_bytes_arg _ 33 5 Try.underlying33 Try.underlying5 _ 0 m 3 ([y1, y2, y3].take m) (by simp; omega) (fun i hi => by
    rw [ho.cell (by simp; omega)]
    have hi3 : i < 3 := by omega
    obtain rfl | rfl | rfl : i = 0 ∨ i = 1 ∨ i = 2 := by omega
    all_goals
      obtain rfl | rfl | rfl | rfl : m = 0 ∨ m = 1 ∨ m = 2 ∨ m = 3 := by omega
      all_goals first | omega | simp) 9 Try.underlying9
theorem small4_snoc {ss : List ByteArray} {s : ByteArray} (h : small4 ss) (hs : s.size ≤ 4) : small4 (ss ++ [s]) := by
  intro x hx
  rcases List.mem_append.1 hx with h1 | h1
  · exact h x h1
  · simp at h1; subst h1; exact hs
theorem strV_snoc (ss : List ByteArray) (s : ByteArray) : strV (ss ++ [s]) = strV ss ++ [.string s] := by simp [strV]

theorem owns_form {w : World} {base : Nat} {v : Value} {k : Nat} {xs : List Value} (h : w.ownsRow base 9 1 v k xs) (hk : 0 < k) : ∃ g cp, v = .slice (some ⟨g, 0, none⟩) k cp := by
  obtain ⟨g, cp, h1, _⟩ := ownsRow_at h hk
  exact ⟨g, cp, h1⟩
theorem strs_of_owns {w : World} {base g k cp : Nat} {ss : List ByteArray} (h : w.ownsRow base 9 1 (.slice (some ⟨g, 0, none⟩) k cp) k (strV ss)) (hl : ss.length = k) : StrsAt w (some ⟨g, 0, none⟩) ss := by
  rcases Nat.eq_zero_or_pos k with h0 | h0
  · exact .inl (List.length_eq_zero_iff.1 (by omega))
  · refine .inr ⟨g, 0, rfl, (h.lt g rfl).2, fun i hi => ?_⟩
    rw [Nat.zero_add, h.cellAt i (by omega)]
    simp [strV, hi]
theorem pk5 (r : Int) (h0 : 0 ≤ r) (h5 : r < 5) : ∃ z : Int, ∀ u : World, (u.alloc (.cells #[.int .i64 1, .int .i64 1, .int .i64 1, .int .i64 2, .int .i64 8] 3)).cell? ⟨u.heap.size, r.toNat, none⟩ = some (.int .i64 z) := by
  obtain rfl | rfl | rfl | rfl | rfl : r = 0 ∨ r = 1 ∨ r = 2 ∨ r = 3 ∨ r = 4 := by omega
  all_goals exact ⟨_, fun u => by simp; rfl⟩
theorem pk2 (r : Int) (h0 : 0 ≤ r) (h2 : r < 2) : ∃ z : Int, ∀ u : World, (u.alloc (.cells #[.int .i64 0, .int .i64 9] 3)).cell? ⟨u.heap.size, r.toNat, none⟩ = some (.int .i64 z) := by
  obtain rfl | rfl : r = 0 ∨ r = 1 := by omega
  all_goals exact ⟨_, fun u => by simp; rfl⟩

theorem ret_sl {a : Option Addr} {k k' c : Nat} {z : Int} (h : k = k') : Ending.returned (.tuple #[.slice a k c, .int .i64 z]) = .returned (.tuple #[.slice a k' c, .int .i64 z]) := by rw [h]
def lenOf : Value → Nat | .slice _ n _ => n | _ => 0
theorem lenOf_owns {w : World} {base : Nat} {v : Value} {k : Nat} {xs : List Value} (h : w.ownsRow base 9 1 v k xs) (hk : 0 < k) : lenOf v = k := by
  obtain ⟨g, cp, rfl⟩ := owns_form h hk
  rfl

set_option maxHeartbeats 2000000 in
theorem c16 (a : Option Addr) (L cap : Nat) (w : World) (hL : L ≤ 1048576) (hcap : L ≤ cap) (h : BytesAt w a L) :
    Calls Try.prog 16 #[.slice a L cap] w fun e w' => (∃ a' ss cap' n, e = .returned (.tuple #[.slice a' ss.length cap', .int .i64 n]) ∧ StrsAt w' a' ss ∧ ss.length ≤ 2001 ∧ small4 ss) ∧ Below w.heap.size w w' := by
  obtain ⟨i0, hi, hz0, hz1, hz2⟩ := info_parts info9
  go_enter Try.func16, Try.ntmps16
  go_wp2_with fail
  refine (c33 a L cap w hL hcap h).mono ?_
  rintro e w1 ⟨rfl, hr1, hb1, hs1⟩
  clear h
  have HR1 : Hid (RdAt w1 w.heap.size 0) := hr1
  have hb1' : Below w.heap.size w (w1.alloc (.cells #[] 9)) := hb1.alloc hb1.size _
  clear hr1
  go_wp2_with fail
  refine (pick _ w.heap.size 0 40 (by omega) (by omega) (by omega) (HR1.out.later ((Below.refl _ _).alloc (Nat.le_refl _) _) HR1.out.lt)).mono ?_
  rintro e w2 ⟨⟨r, rfl, hr0, hr40⟩, hrd2, ho2⟩
  have HRD2 : Hid (RdAt w2 w.heap.size 1) := hrd2
  clear hrd2
  have hown2 : w2.ownsRow (w.heap.size + 1) 9 1 (.slice (some ⟨w.heap.size + 1, 0, none⟩) 0 0) 0 (strV []) := by
    have h := ho2.owns (World.ownsRow_lit (base := w.heap.size + 1) (e := 9) (size := 1) w1 #[] 0 (by omega) (Nat.zero_le _) rfl) (by omega)
    rw [hs1] at h
    exact h
  have hb2 : Below w.heap.size w w2 := hb1'.trans (ho2.below (Nat.le_refl _))
  go_wp2_with fail
  go_loopw [5, 7] (fun v i wr => ∃ (k : Nat) (ss : List ByteArray), (k : Int) ≤ 10 + r ∧ i = .int .i64 k ∧ Hid (ss.length = k) ∧ Hid (small4 ss) ∧ wr.ownsRow (w.heap.size + 1) 9 1 v k (strV ss) ∧ Hid (RdAt wr w.heap.size (1 + 4 * k)) ∧ Below w.heap.size w wr ∧ w.heap.size + 1 ≤ wr.heap.size) (fun _ i _ => (10 + r).toNat - (intOf i).toNat)
  case atStart =>
    refine ⟨0, [], by omega, rfl, rfl, fun s hs => by simp at hs, hown2, HRD2.out, hb2, ?_⟩
    rw [ho2.size]; simp; omega
  case round =>
    obtain ⟨k, ss, hk, rfl, hlen, hsm, hown, hrd, hb, hz⟩ := hrel
    by_cases hlt : (k : Int) < 10 + r
    · go_wp2_with fail
      refine (pick _ w.heap.size (1 + 4 * k) 26 (by omega) (by omega) (by omega) hrd.out).mono ?_
      rintro e wa ⟨⟨ra, rfl, ra0, ra26⟩, hrda, hoa⟩
      have HRa : Hid (RdAt wa w.heap.size (1 + 4 * k + 1)) := hrda
      clear hrda
      go_wp2_with fail
      refine (pick _ w.heap.size (1 + 4 * k + 1) 26 (by omega) (by omega) (by omega) HRa.out).mono ?_
      rintro e wb ⟨⟨rb, rfl, rb0, rb26⟩, hrdb, hob⟩
      have HRb : Hid (RdAt wb w.heap.size (1 + 4 * k + 1 + 1)) := hrdb
      clear hrdb
      go_wp2_with fail
      refine (pick _ w.heap.size (1 + 4 * k + 1 + 1) 26 (by omega) (by omega) (by omega) HRb.out).mono ?_
      rintro e wc ⟨⟨rc, rfl, rc0, rc26⟩, hrdc, hoc⟩
      have HRc : Hid (RdAt wc w.heap.size (1 + 4 * k + 1 + 1 + 1)) := hrdc
      clear hrdc
      go_wp2_with fail
      generalize (97 + ra : Int) = y1 at *
      generalize (97 + (rb + (k : Int)) % 26 : Int) = y2 at *
      generalize (wrap64 (97 + (wrap64 (rc + wrap64 ((k : Int) * (k : Int)))).tmod 26) % 256 : Int) = y3 at *
      have hB1 : Below w.heap.size w wc := ((hb.trans (hoa.below (Nat.le_refl _))).trans (hob.below (Nat.le_refl _))).trans (hoc.below (Nat.le_refl _))
      have hzc : wr.heap.size ≤ wc.heap.size := by rw [hoc.size, hob.size, hoa.size]; exact Nat.le_refl _
      have hownc : wc.ownsRow (w.heap.size + 1) 9 1 u5 k (strV ss) := hoc.owns (hob.owns (hoa.owns hown (by omega)) (by omega)) (by omega)
      refine (pick _ w.heap.size (1 + 4 * k + 1 + 1 + 1) 3 (by omega) (by omega) (by omega) (HRc.out.later ((Below.refl _ _).alloc (Nat.le_refl _) _) HRc.out.lt)).mono ?_
      rintro e wd ⟨⟨rd, rfl, rd0, rd3⟩, hrdd, hod⟩
      have HRd : Hid (RdAt wd w.heap.size (1 + 4 * k + 1 + 1 + 1 + 1)) := hrdd
      have hownd : wd.ownsRow (w.heap.size + 1) 9 1 u5 k (strV ss) := hod.owns (hownc.alloc _) (by omega)
      have hBd : Below w.heap.size w wd := (hB1.alloc hB1.size _).trans (hod.below (Nat.le_refl _))
      have hzd : wc.heap.size + 1 ≤ wd.heap.size := by rw [hod.size]; simp
      clear hrdd hoa hob hoc hown hownc hB1 hb
      have cv := fun (m : Nat) (hm : m ≤ 3) => conv3 hod (by omega) m hm
      have hmod : ((k : Int) + rd) % 3 = 0 ∨ ((k : Int) + rd) % 3 = 1 ∨ ((k : Int) + rd) % 3 = 2 := by omega
      have cv1 := cv 1 (by omega)
      have cv2 := cv 2 (by omega)
      have cv3 := cv 3 (by omega)
      clear cv hod
      simp only [List.take_succ_cons, List.take_zero, List.take_nil] at cv1 cv2 cv3
      rcases hmod with hmod | hmod | hmod
      all_goals
        go_wp2_with (at_builtin; refine wpList_append_own _ rfl _ _ 34 rfl (w.heap.size + 1) 9 i0 (.string ⟨#[]⟩) 1 16 Try.underlying34 hi hz0 hz1 hz2 rfl (by decide) _ _ _ rfl (hownd.alloc _) ⟨wd.heap.size, 0, none⟩ 1 1 [_] rfl rfl (cell_one_new _ _ _) (by intro u hu; simp at hu; subst hu; rfl) (by unfold maxLen; omega) (by omega) (by simp; omega) ?_; intro v' we hown' hgrow _)
        go_roundw
        case rel =>
          have hBe : Below (w.heap.size + 1) wd we := ((Below.refl _ _).alloc (by omega) _).grown hgrow (by simp; omega) (fun j hj => (hownd.lt j hj).1)
          refine ⟨k + 1, ss ++ [_], by omega, by go_num, (by show (ss ++ [_]).length = k + 1; rw [List.length_append, hlen.out]; rfl), small4_snoc hsm.out ?_, by rw [strV_snoc]; exact hown', HRd.out.later hBe (by omega), hBd.trans (hBe.mono (by omega)), Nat.le_trans (by omega) hBe.size⟩
          rw [strOfNums_size]; simp
        case measure => simp [intOf]; omega
    · have hkr : (k : Int) = 10 + r := by omega
      go_wp2_with fail
      refine (pick _ w.heap.size (1 + 4 * k) 24 (by omega) (by omega) (by omega) hrd.out).mono ?_
      rintro e w3 ⟨⟨r3, rfl, r30, r324⟩, hrd3, ho3⟩
      have HR3 : Hid (RdAt w3 w.heap.size (1 + 4 * k + 1)) := hrd3
      have hown3 : w3.ownsRow (w.heap.size + 1) 9 1 u5 k (strV ss) := ho3.owns hown (by omega)
      have hb3 : Below w.heap.size w w3 := hb.trans (ho3.below (Nat.le_refl _))
      have hz3 : w.heap.size + 1 ≤ w3.heap.size := by rw [ho3.size]; exact hz
      clear hrd3 ho3 hown hb
      by_cases e0 : r3 = 0
      · subst e0
        go_wp2_with fail
        go_loopw [5] (fun v wx => ∃ (j p : Nat) (tt : List ByteArray), j ≤ 2001 ∧ 10 ≤ j ∧ p ≤ 1000 + j ∧ Hid (tt.length = j) ∧ Hid (small4 tt) ∧ wx.ownsRow (w.heap.size + 1) 9 1 v j (strV tt) ∧ Hid (RdAt wx w.heap.size p) ∧ Below w.heap.size w wx ∧ w.heap.size + 1 ≤ wx.heap.size) (fun v _ => 2001 - lenOf v)
        case atStart => exact ⟨k, 1 + 4 * k + 1, ss, by omega, by omega, by omega, hlen, hsm, hown3, HR3, hb3, hz3⟩
        case round =>
          obtain ⟨j, p, tt, hj1, hj2, hp, hlt2, hst, hox, hrx, hbx, hzx⟩ := hrel
          obtain ⟨g, cp, rfl⟩ := owns_form hox (by omega)
          go_wp2_with fail
          refine (pick _ w.heap.size p 2 (by omega) (by omega) (by omega) hrx.out).mono ?_
          rintro e wy ⟨⟨r5, rfl, r50, r52⟩, hrdy, hoy⟩
          have HRy : Hid (RdAt wy w.heap.size (p + 1)) := hrdy
          have hownY : wy.ownsRow (w.heap.size + 1) 9 1 (.slice (some ⟨g, 0, none⟩) j cp) j (strV tt) := hoy.owns hox (by omega)
          have hby : Below w.heap.size w wy := hbx.trans (hoy.below (Nat.le_refl _))
          have hzy : w.heap.size + 1 ≤ wy.heap.size := by rw [hoy.size]; exact hzx
          clear hrdy hoy hox hbx
          by_cases hgo : (j : Int) < 2000 + r5
          · go_wp2_with (at_builtin; refine wpList_append_own _ rfl _ _ 34 rfl (w.heap.size + 1) 9 i0 (.string ⟨#[]⟩) 1 16 Try.underlying34 hi hz0 hz1 hz2 rfl (by decide) _ _ _ rfl (hownY.alloc _) ⟨wy.heap.size, 0, none⟩ 1 1 [_] rfl rfl (cell_one_new _ _ _) (by intro u hu; simp at hu; subst hu; rfl) (by unfold maxLen; omega) (by omega) (by simp; omega) ?_; intro v' we hown' hgrow _)
            go_roundw
            case rel =>
              have hBe : Below (w.heap.size + 1) wy we := ((Below.refl _ _).alloc (by omega) _).grown hgrow (by simp; omega) (fun j hj => (hownY.lt j hj).1)
              exact ⟨j + 1, p + 1, tt ++ [⟨#[115, 97, 109, 101]⟩], by omega, by omega, by omega, (by show (tt ++ [_]).length = j + 1; rw [List.length_append, hlt2.out]; rfl), small4_snoc hst.out (by decide), by rw [strV_snoc]; exact hown', HRy.out.later hBe (by omega), hby.trans (hBe.mono (by omega)), Nat.le_trans (by omega) hBe.size⟩
            case measure =>
              have := lenOf_owns hown' (by omega)
              simp only [lenOf] at *
              omega
          · go_wp2_with fail
            go_region_with (go_at_call 34; refine (pick _ w.heap.size (p + 1) 5 (by omega) (by omega) (by omega) ?_).mono ?_; exact HRy.out.later (B := wy.heap.size) (by first | exact (Below.refl wy.heap.size wy).drew | exact ((Below.refl wy.heap.size wy).alloc (Nat.le_refl _) _).drew) HRy.out.lt; rintro e w4 ⟨⟨r4, rfl, r40, r45⟩, hrd4, ho4⟩; obtain ⟨z, hz⟩ := pk5 r4 r40 r45; (try (have hzz := (ho4.cell (p := ⟨wy.heap.size, r4.toNat, none⟩) (by simp; omega)).trans (hz _))))
            all_goals go_wp2
            all_goals go_ret2
            all_goals first
              | exact ⟨⟨_, tt, _, _, ret_sl hlt2.out.symm, strs_of_owns (ho4.owns ((hownY.alloc _).drew) (by omega)) hlt2.out, by rw [hlt2.out]; omega, hst.out⟩, ((hby.alloc hby.size _).drew).trans (ho4.below (Nat.le_refl _))⟩
              | exact ⟨⟨_, tt, _, _, ret_sl hlt2.out.symm, strs_of_owns ((ho4.owns hownY.drew (by omega)).alloc _) hlt2.out, by rw [hlt2.out]; omega, hst.out⟩, ((hby.drew).trans (ho4.below (Nat.le_refl _))).alloc (((hby.drew).trans (ho4.below (Nat.le_refl _))).size) _⟩
      · by_cases e1 : r3 = 1
        · subst e1
          obtain ⟨g, cp, rfl⟩ := owns_form hown3 (by omega)
          go_wp2_with fail
          go_region_with (go_at_call 34; refine (pick _ w.heap.size (1 + 4 * k + 1) 2 (by omega) (by omega) (by omega) ?_).mono ?_; exact HR3.out.later (B := w3.heap.size) (by first | exact (Below.refl w3.heap.size w3).drew | exact ((Below.refl w3.heap.size w3).alloc (Nat.le_refl _) _).drew) HR3.out.lt; rintro e w4 ⟨⟨r4, rfl, r40, r45⟩, hrd4, ho4⟩; obtain ⟨z, hz⟩ := pk2 r4 r40 r45; (try (have hzz := (ho4.cell (p := ⟨w3.heap.size, r4.toNat, none⟩) (by simp; omega)).trans (hz _))))
          all_goals go_wp2
          all_goals go_ret2
          all_goals first
            | exact ⟨⟨_, ss, _, _, ret_sl hlen.out.symm, strs_of_owns (ho4.owns ((hown3.alloc _).drew) (by omega)) hlen.out, by rw [hlen.out]; omega, hsm.out⟩, ((hb3.alloc hb3.size _).drew).trans (ho4.below (Nat.le_refl _))⟩
            | exact ⟨⟨_, ss, _, _, ret_sl hlen.out.symm, strs_of_owns ((ho4.owns hown3.drew (by omega)).alloc _) hlen.out, by rw [hlen.out]; omega, hsm.out⟩, ((hb3.drew).trans (ho4.below (Nat.le_refl _))).alloc (((hb3.drew).trans (ho4.below (Nat.le_refl _))).size) _⟩
        · have f0 : (r3 == 0) = false := by simp; omega
          have f1 : (r3 == 1) = false := by simp; omega
          obtain ⟨g, cp, rfl⟩ := owns_form hown3 (by omega)
          go_wp2_with fail
          go_region_with (go_at_call 34; refine (pick _ w.heap.size (1 + 4 * k + 1) 5 (by omega) (by omega) (by omega) ?_).mono ?_; exact HR3.out.later (B := w3.heap.size) (by first | exact (Below.refl w3.heap.size w3).drew | exact ((Below.refl w3.heap.size w3).alloc (Nat.le_refl _) _).drew) HR3.out.lt; rintro e w4 ⟨⟨r4, rfl, r40, r45⟩, hrd4, ho4⟩; obtain ⟨z, hz⟩ := pk5 r4 r40 r45; (try (have hzz := (ho4.cell (p := ⟨w3.heap.size, r4.toNat, none⟩) (by simp; omega)).trans (hz _))))
          all_goals go_wp2
          all_goals go_ret2
          all_goals first
            | exact ⟨⟨_, ss, _, _, ret_sl hlen.out.symm, strs_of_owns (ho4.owns ((hown3.alloc _).drew) (by omega)) hlen.out, by rw [hlen.out]; omega, hsm.out⟩, ((hb3.alloc hb3.size _).drew).trans (ho4.below (Nat.le_refl _))⟩
            | exact ⟨⟨_, ss, _, _, ret_sl hlen.out.symm, strs_of_owns ((ho4.owns hown3.drew (by omega)).alloc _) hlen.out, by rw [hlen.out]; omega, hsm.out⟩, ((hb3.drew).trans (ho4.below (Nat.le_refl _))).alloc (((hb3.drew).trans (ho4.below (Nat.le_refl _))).size) _⟩
end Go.Proofs.Ytckbjbnmlmhihaa
