import Derived.Test.YtafneponofcdeaaD4
namespace Go.Proofs.Ytafneponofcdeaa
open Go.RowKit

/-- A glance of a record of this width. -/
def GlOk (W : Int) (g : G3) : Prop := nameOk g.tl.data.toList = true ∧ (g.ar.size : Int) = W
def RecOk (W : Int) (x : R3) : Prop := (x.key.size ≤ 321 ∧ (x.out.size : Int) = W ∧ x.gs.length ≤ 15) ∧ ∀ i, i < x.gs.length → GlOk W (x.gs.getD i g3z)
def RecsOk (W : Int) (rs : List R3) : Prop := rs.length ≤ 150 ∧ ∀ i, i < rs.length → RecOk W (rs.getD i r3z)
def StepT (ts : List ByteArray) (W : Int) (k : Nat) : Prop := (∃ c t, IsR (ts.getD k ByteArray.empty).data.toList c t true) ∧ (k = 0 ∨ Op.bytesLess (sumS (ts.getD (k - 1) ByteArray.empty) W).toList (sumS (ts.getD k ByteArray.empty) W).toList = true)
def TextsOk (ts : List ByteArray) (W : Int) : Prop := ts.length ≤ 300 ∧ ∀ k, k < ts.length → StepT ts W k
def StOk (s : St) : Prop := (1 ≤ s.wd ∧ s.wd ≤ 8) ∧ TextsOk s.ts s.wd ∧ RecsOk s.wd s.rs
theorem isR_flag {l t : List UInt8} {c : Int} {ok : Bool} (h : IsR l c t ok) : ok = true ↔ ∃ c t, IsR l c t true := by
  constructor
  · rintro rfl; exact ⟨c, t, h⟩
  · rintro ⟨c', t', h'⟩; exact (isR_one h h').2.2
theorem sumS_size {s : ByteArray} {n : Int} (h : 1 ≤ n ∧ n ≤ 8) : (sumS s n).size = n.toNat := by
  unfold sumS; rw [if_pos h, strOfNums_size, outs_length]
theorem less_nil {s : ByteArray} (h : 1 ≤ s.size) : Op.bytesLess (⟨#[]⟩ : ByteArray).toList s.toList = true := by
  have h0 : (⟨#[]⟩ : ByteArray).toList = [] := by rw [ByteArray.toList_eq]
  rw [h0]
  cases hl : s.toList with
  | nil =>
    rw [ByteArray.toList_eq] at hl
    have : s.data.toList.length = s.size := by simp
    rw [hl] at this; simp at this; omega
  | cons c r => rfl
def Rb (P : Prop) (e : Ending) : Prop := ∃ b : Bool, e = .returned (.bool b) ∧ (b = true ↔ P)
theorem rb_no {P : Prop} (h : ¬ P) : Rb P (.returned (.bool false)) := ⟨false, rfl, (fun h => by cases h), fun p => absurd p h⟩
theorem rb_yes {P : Prop} (h : P) : Rb P (.returned (.bool true)) := ⟨true, rfl, fun _ => h, fun _ => rfl⟩

set_option maxHeartbeats 2000000 in
theorem c38 (x : R3) (ai : Option Addr) (ci : Nat) (W : Int) (w : World) (hs : x.le 1048576) (hat : GlsAt w ai x.gs) :
    Calls Try.prog 38 #[.agg #[.string x.key, .slice ai x.gs.length ci, .string x.out], .int .i64 W] w fun e w' => Rb (RecOk W x) e ∧ Below w.heap.size w w' := by
  obtain ⟨s1, s2, s3, s4⟩ := hs
  have HS : Hid (∀ i, (x.gs.getD i g3z).le 1048576) := s3
  clear s3
  have hB0 : Below w.heap.size w (w.alloc (.cells #[.string x.key, .slice ai x.gs.length ci, .string x.out] 52)) := (Below.refl _ _).alloc (Nat.le_refl _) _
  by_cases h : x.key.size ≤ 321 ∧ (x.out.size : Int) = W ∧ x.gs.length ≤ 15
  · obtain ⟨h1, h2, h3⟩ := h
    obtain ⟨b, off, hc⟩ := gls_some hat
    have HC : Hid (x.gs = [] ∨ (ai = some ⟨b, off, none⟩ ∧ b < w.heap.size ∧ ∀ i, i < x.gs.length → w.cell? ⟨b, off + i * 3, none⟩ = some (.bool (x.gs.getD i g3z).nm) ∧ w.cell? ⟨b, off + i * 3 + 1, none⟩ = some (.string (x.gs.getD i g3z).tl) ∧ w.cell? ⟨b, off + i * 3 + 2, none⟩ = some (.string (x.gs.getD i g3z).ar))) := hc
    have HH : Hid (x.key.size ≤ 321 ∧ (x.out.size : Int) = W ∧ x.gs.length ≤ 15) := ⟨h1, h2, h3⟩
    clear hc hat
    go_enter Try.func38, Try.ntmps38
    go_wp2_with fail
    go_loopw [27] (fun i wr => ∃ (k : Nat), k ≤ x.gs.length ∧ i = .int .i64 k ∧ Hid (∀ j, j < k → GlOk W (x.gs.getD j g3z)) ∧ Below w.heap.size w wr) (fun i _ => x.gs.length - (intOf i).toNat)
    case atStart => exact ⟨0, Nat.zero_le _, rfl, fun j h => absurd h (Nat.not_lt_zero _), hB0⟩
    case round =>
      obtain ⟨k, hk, rfl, hdone, hb⟩ := hrel
      by_cases hlt : k < x.gs.length
      · rcases HC.out with hss | ⟨ha, hbw, hcell⟩
        · rw [hss] at hlt; exact absurd hlt (Nat.not_lt_zero _)
        subst ha
        have g0 := (hb.cell (p := ⟨b, off + k * 3, none⟩) hbw).trans (hcell k hlt).1
        have g1 := (hb.cell (p := ⟨b, off + k * 3 + 1, none⟩) hbw).trans (hcell k hlt).2.1
        have g2 := (hb.cell (p := ⟨b, off + k * 3 + 2, none⟩) hbw).trans (hcell k hlt).2.2
        obtain ⟨gs1, gs2⟩ := HS.out k
        have hzw : w.heap.size ≤ wr.heap.size := hb.size
        generalize hx : x.gs.getD k g3z = y at *
        have HX : Hid (x.gs.getD k g3z = y) := hx
        clear hx hcell
        have hA : Below w.heap.size w (wr.alloc (.cells #[.bool y.nm, .string y.tl, .string y.ar] 54)) := hb.alloc hb.size _
        go_wp2_with fail
        refine (c31 y.tl _ (by omega)).mono ?_
        rintro e w1 ⟨rfl, hw1⟩
        obtain rfl := hw1
        cases hn : nameOk y.tl.data.toList
        · have HR : Hid (¬ RecOk W x) := fun h => by have := (h.2 k hlt).1; rw [HX.out, hn] at this; cases this
          go_wp2
          go_ret
          exact ⟨rb_no HR.out, hA⟩
        · by_cases hw : (y.ar.size : Int) = W
          · have hd' : Hid (∀ j, j < k + 1 → GlOk W (x.gs.getD j g3z)) := fun j hj => by
              rcases Nat.lt_or_ge j k with h | h
              · exact hdone.out j h
              · obtain rfl : j = k := by omega
                rw [HX.out]; exact ⟨hn, hw⟩
            clear hn
            go_wp2
            go_roundw
            case rel => exact ⟨k + 1, by omega, by go_num, hd', hA⟩
            case measure => simp [intOf]; omega
          · have HR : Hid (¬ RecOk W x) := fun h => hw (by have := (h.2 k hlt).2; rw [HX.out] at this; exact this)
            have hw' : ((y.ar.size : Int) != W) = true := by simpa using hw
            have hw2 : ((y.ar.size : Int) == W) = false := by simpa using hw
            clear hn
            go_wp2
            go_ret
            exact ⟨rb_no HR.out, hA⟩
      · have HR : Hid (RecOk W x) := ⟨HH.out, fun i hi => hdone.out i (by omega)⟩
        go_wp2
        go_ret
        exact ⟨rb_yes HR.out, hb⟩
  · have HR : Hid (¬ RecOk W x) := fun h' => h h'.1
    clear hat
    by_cases h1 : x.key.size ≤ 321
    · by_cases h2 : (x.out.size : Int) = W
      · have h3 : 15 < x.gs.length := by
          rcases Nat.lt_or_ge 15 x.gs.length with h3 | h3
          · exact h3
          · exact absurd ⟨h1, h2, h3⟩ h
        clear h
        go_enter Try.func38, Try.ntmps38
        go_wp2
        go_ret
        exact ⟨rb_no HR.out, hB0⟩
      · have h2' : ((x.out.size : Int) != W) = true := by simpa using h2
        have h2'' : ((x.out.size : Int) == W) = false := by simpa using h2
        clear h
        go_enter Try.func38, Try.ntmps38
        go_wp2
        go_ret
        exact ⟨rb_no HR.out, hB0⟩
    · clear h
      go_enter Try.func38, Try.ntmps38
      go_wp2
      go_ret
      exact ⟨rb_no HR.out, hB0⟩

set_option maxHeartbeats 2000000 in
theorem c26 (a : Option Addr) (cap : Nat) (is : List R3) (W : Int) (w : World) (hl : is.length ≤ 1048576) (hs : ∀ i, (is.getD i r3z).le 1048576) (hat : RecsAt w a is) :
    Calls Try.prog 26 #[.slice a is.length cap, .int .i64 W] w fun e w' => Rb (RecsOk W is) e ∧ Below w.heap.size w w' := by
  obtain ⟨b, off, hc⟩ := recs_some hat
  have HC : Hid (is = [] ∨ (a = some ⟨b, off, none⟩ ∧ b < w.heap.size ∧ ∀ i, i < is.length → RecAt w b (off + i * 3) (is.getD i r3z))) := hc
  have HS : Hid (∀ i, (is.getD i r3z).le 1048576) := hs
  clear hc hat hs
  by_cases hbig : 150 < is.length
  · have HR : Hid (¬ RecsOk W is) := fun h => by have := h.1; omega
    go_enter Try.func26, Try.ntmps26
    go_wp2
    go_ret
    exact ⟨rb_no HR.out, Below.refl _ _⟩
  · go_enter Try.func26, Try.ntmps26
    go_wp2_with fail
    go_loopw [12] (fun i wr => ∃ (k : Nat), k ≤ is.length ∧ i = .int .i64 k ∧ Hid (∀ j, j < k → RecOk W (is.getD j r3z)) ∧ Below w.heap.size w wr) (fun i _ => is.length - (intOf i).toNat)
    case atStart => exact ⟨0, Nat.zero_le _, rfl, fun j h => absurd h (Nat.not_lt_zero _), Below.refl _ _⟩
    case round =>
      obtain ⟨k, hk, rfl, hdone, hb⟩ := hrel
      by_cases hlt : k < is.length
      · rcases HC.out with hss | ⟨ha, hbw, hcell⟩
        · rw [hss] at hlt; exact absurd hlt (Nat.not_lt_zero _)
        subst ha
        have hzw : w.heap.size ≤ wr.heap.size := hb.size
        obtain ⟨ai, ci, e0, e1, e2, e3⟩ := (hcell k hlt).below hbw hb
        have hxs := HS.out k
        generalize hx : is.getD k r3z = x at *
        have HX : Hid (is.getD k r3z = x) := hx
        clear hx hcell
        have hAr : ∀ o, Below wr.heap.size wr (wr.alloc o) := fun o => (Below.refl _ _).alloc (Nat.le_refl _) _
        have h38 := fun o => c38 x ai ci W (wr.alloc o) hxs (gls_below e3 (hAr o))
        clear e3
        go_wp2_with fail
        refine (h38 _).mono ?_
        rintro e w1 ⟨⟨bb, rfl, hbb⟩, hb1⟩
        have hB1 : Below w.heap.size w w1 := hb.trans (((hAr _).trans (hb1.mono (by simp))).mono hb.size)
        clear h38
        cases bb
        · have HR : Hid (¬ RecsOk W is) := fun h => by have := hbb.2 (HX.out ▸ h.2 k hlt); cases this
          clear hbb
          go_wp2
          go_ret
          exact ⟨rb_no HR.out, hB1⟩
        · have hd' : Hid (∀ j, j < k + 1 → RecOk W (is.getD j r3z)) := fun j hj => by
            rcases Nat.lt_or_ge j k with h | h
            · exact hdone.out j h
            · obtain rfl : j = k := by omega
              rw [HX.out]; exact hbb.1 rfl
          clear hbb
          go_wp2
          go_roundw
          case rel => exact ⟨k + 1, by omega, by go_num, hd', hB1⟩
          case measure => simp [intOf]; omega
      · have HR : Hid (RecsOk W is) := ⟨by omega, fun i hi => hdone.out i (by omega)⟩
        go_wp2
        go_ret
        exact ⟨rb_yes HR.out, hb⟩
end Go.Proofs.Ytafneponofcdeaa
