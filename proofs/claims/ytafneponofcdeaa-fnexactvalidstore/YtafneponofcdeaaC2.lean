import Derived.Test.YtafneponofcdeaaC1
namespace Go.Proofs.Ytafneponofcdeaa
open Go.RowKit

/-- The form of a result. -/
def formR (c : Int) (l : List UInt8) : List UInt8 := if vr c l = true then UInt8.ofNat (48 + c).toNat :: 58 :: l else []
theorem vr_code {c : Int} {l : List UInt8} (h : vr c l = true) : c = 0 ∨ c = 1 ∨ c = 2 ∨ c = 3 ∨ c = 4 ∨ c = 5 ∨ c = 7 := by
  unfold vr at h
  by_cases h1 : c = 0 ∨ c = 1
  · omega
  · rw [if_neg h1] at h
    by_cases h2 : c = 2
    · omega
    · rw [if_neg h2] at h
      by_cases h3 : c = 3
      · omega
      · rw [if_neg h3] at h
        by_cases h4 : c = 4 ∨ c = 5 ∨ c = 7
        · omega
        · rw [if_neg h4] at h; cases h

theorem form_no {c : Int} {s : ByteArray} (h : vr c s.data.toList = false) : Ending.returned (.string (⟨#[]⟩ : ByteArray)) = .returned (.string (ofL (formR c s.data.toList))) := by
  unfold formR; rw [h]; rfl
theorem form_yes {c : Int} {s : ByteArray} (h : vr c s.data.toList = true) : ofL (formR c s.data.toList) = ofL [UInt8.ofNat (48 + c).toNat] ++ ⟨#[58]⟩ ++ s := by
  unfold formR; rw [if_pos h]; apply ByteArray.ext; simp [ofL]

theorem past {w : World} {p : Addr} {v : Value} (hp : p.block < w.heap.size) (h : w.cell? p = some v) (o : Obj) : (w.alloc o).cell? p = some v := by
  rw [((Below.refl w.heap.size w).alloc (Nat.le_refl _) o).cell hp]; exact h
set_option maxHeartbeats 1000000 in
theorem c13 (c : Int) (s : ByteArray) (w : World) (hs : s.size ≤ 1048700) :
    Calls Try.prog 13 #[.agg #[.int .i64 c, .string s]] w fun e w' => e = .returned (.string (ofL (formR c s.data.toList))) ∧ Below w.heap.size w w' := by
  go_enter Try.func13, Try.ntmps13
  go_wp2_with fail
  refine (c29 _ _ _ hs).mono ?_
  rintro e w1 ⟨rfl, hb1⟩
  have hB1 := ((Below.refl w.heap.size w).alloc (Nat.le_refl _) (.cells #[.int .i64 c, .string s] 23)).trans (hb1.mono (by simp))
  have hz1 : w.heap.size + 1 ≤ w1.heap.size := by have := hb1.size; simp at this; omega
  have g10 : w1.cell? ⟨w.heap.size, 0, none⟩ = some (.int .i64 c) := by rw [hb1.cell (by simp)]; simp
  have g11 : w1.cell? ⟨w.heap.size, 1, none⟩ = some (.string s) := by rw [hb1.cell (by simp)]; simp
  cases hv : vr c s.data.toList
  · have hF := form_no hv
    go_wp2
    go_ret
    exact ⟨hF, hB1⟩
  · have hc := vr_code hv
    have hF : Hid (ofL (formR c s.data.toList) = ofL [UInt8.ofNat (48 + c).toNat] ++ ⟨#[58]⟩ ++ s) := form_yes hv
    have hcv := conv1
    have hcd := convD
    have hz : ∀ y, (strOfNums [y]).size = 1 := fun y => strOfNums_size [y]
    clear hv
    have h0 : 0 ≤ c := by omega
    have h7 : c ≤ 7 := by omega
    have hO : Hid (strOfNums [48 + c] = ofL [UInt8.ofNat (48 + c).toNat]) := by
      rcases hc with rfl | rfl | rfl | rfl | rfl | rfl | rfl <;> rfl
    clear hc
    have g12 : ∀ o, (w1.alloc o).cell? ⟨w.heap.size, 1, none⟩ = some (.string s) := past (by simp; omega) g11
    go_wp2
    go_ret
    exact ⟨by rw [hF.out, ← hO.out]; rfl, by first | exact hB1.alloc (by omega) _ | exact (hB1.alloc (by omega) _).drew⟩

theorem dig_inj {c d : Int} (hc : c = 0 ∨ c = 1 ∨ c = 2 ∨ c = 3 ∨ c = 4 ∨ c = 5 ∨ c = 7) (hd : 0 ≤ d ∧ d ≤ 9) (h : UInt8.ofNat (48 + c).toNat = UInt8.ofNat (48 + d).toNat) : c = d := by
  have h' := congrArg UInt8.toNat h
  simp only [UInt8.toNat_ofNat'] at h'
  omega
/-- What ReadResult comes to. -/
def IsR (l : List UInt8) (c : Int) (t : List UInt8) (ok : Bool) : Prop :=
  (ok = true → vr c t = true ∧ l = UInt8.ofNat (48 + c).toNat :: 58 :: t) ∧ (ok = false → (c = 0 ∧ t = []) ∧ ∀ c' t', vr c' t' = true → l ≠ UInt8.ofNat (48 + c').toNat :: 58 :: t')
theorem code_09 {c : Int} {t : List UInt8} (h : vr c t = true) : 0 ≤ c ∧ c ≤ 9 := by have := vr_code h; omega
theorem isR_one {l t u : List UInt8} {c d : Int} {a b : Bool} (h : IsR l c t a) (k : IsR l d u b) : c = d ∧ t = u ∧ a = b := by
  cases a <;> cases b
  · obtain ⟨⟨rfl, rfl⟩, _⟩ := h.2 rfl
    obtain ⟨⟨rfl, rfl⟩, _⟩ := k.2 rfl
    exact ⟨rfl, rfl, rfl⟩
  · obtain ⟨_, hn⟩ := h.2 rfl
    obtain ⟨h1, h2⟩ := k.1 rfl
    exact absurd h2 (hn _ _ h1)
  · obtain ⟨_, hn⟩ := k.2 rfl
    obtain ⟨h1, h2⟩ := h.1 rfl
    exact absurd h2 (hn _ _ h1)
  · obtain ⟨h1, h2⟩ := h.1 rfl
    obtain ⟨k1, k2⟩ := k.1 rfl
    rw [h2] at k2
    simp only [List.cons.injEq, true_and] at k2
    exact ⟨dig_inj (vr_code h1) (code_09 k1) k2.1, k2.2, rfl⟩
theorem isR_no {l : List UInt8} (h : ∀ c' t', vr c' t' = true → l ≠ UInt8.ofNat (48 + c').toNat :: 58 :: t') : IsR l 0 [] false := ⟨(fun h => by cases h), fun _ => ⟨⟨rfl, rfl⟩, h⟩⟩
theorem num7_of {l : List UInt8} (h : num7 l = true) : 0 ≤ val l ∧ val l ≤ 7 ∧ l = [UInt8.ofNat (48 + val l).toNat] := by
  simp only [num7, Bool.and_eq_true, decide_eq_true_eq] at h
  obtain ⟨⟨h1, h2⟩, h3⟩ := h
  have h0 := val_nonneg l h2
  refine ⟨h0, h3, ?_⟩
  have hd := (dec_val l h2 h1).1
  rw [dec_lt _ (by omega)] at hd
  exact hd.symm
theorem num7_dig {c : Int} (h : c = 0 ∨ c = 1 ∨ c = 2 ∨ c = 3 ∨ c = 4 ∨ c = 5 ∨ c = 7) : num7 [UInt8.ofNat (48 + c).toNat] = true := by
  rcases h with rfl | rfl | rfl | rfl | rfl | rfl | rfl <;> decide
theorem colon_dig {c : Int} (h : c = 0 ∨ c = 1 ∨ c = 2 ∨ c = 3 ∨ c = 4 ∨ c = 5 ∨ c = 7) : (58 : UInt8) ∉ [UInt8.ofNat (48 + c).toNat] := by
  rcases h with rfl | rfl | rfl | rfl | rfl | rfl | rfl <;> decide
theorem split58 {a b r q : List UInt8} (ha : (58 : UInt8) ∉ a) (hb : (58 : UInt8) ∉ b) (h : a ++ 58 :: r = b ++ 58 :: q) : a = b ∧ r = q := by
  induction a generalizing b with
  | nil =>
    cases b with
    | nil => exact ⟨rfl, by simpa using h⟩
    | cons x b => simp at h; exact absurd (by rw [h.1]; simp) hb
  | cons x a ih =>
    cases b with
    | nil => simp at h; exact absurd (by rw [h.1]; simp) ha
    | cons y b =>
      simp only [List.cons_append, List.cons.injEq] at h
      obtain ⟨rfl, h⟩ := h
      obtain ⟨rfl, rfl⟩ := ih (fun m => ha (List.mem_cons_of_mem _ m)) (fun m => hb (List.mem_cons_of_mem _ m)) h
      exact ⟨rfl, rfl⟩
/-- What impl.ReadResult comes to, by the parts that it cuts. -/
theorem isR_impl {l : List UInt8} : ((Lib.cut l [58]).2.2 = true → num7 (Lib.cut l [58]).1 = true → vr (rn7 (Lib.cut l [58]).1) (Lib.cut l [58]).2.1 = true → IsR l (rn7 (Lib.cut l [58]).1) (Lib.cut l [58]).2.1 true) ∧ (¬ ((Lib.cut l [58]).2.2 = true ∧ num7 (Lib.cut l [58]).1 = true ∧ vr (rn7 (Lib.cut l [58]).1) (Lib.cut l [58]).2.1 = true) → IsR l 0 [] false) := by
  have hcut := cut_58 l
  generalize (Lib.cut l [58]).1 = a at hcut ⊢
  generalize (Lib.cut l [58]).2.1 = t at hcut ⊢
  generalize (Lib.cut l [58]).2.2 = k at hcut ⊢
  rcases hcut with ⟨rfl, rfl, hn⟩ | ⟨rfl, rfl, hn⟩
  · refine ⟨fun _ h7 hv => ⟨fun _ => ⟨hv, ?_⟩, (fun h => by cases h)⟩, fun h => isR_no fun c' t' hv' e => ?_⟩
    · obtain ⟨_, _, h⟩ := num7_of h7
      rw [rn7_yes h7]
      conv => lhs; rw [h]
      rfl
    · obtain ⟨rfl, rfl⟩ := split58 (b := [UInt8.ofNat (48 + c').toNat]) hn (colon_dig (vr_code hv')) e
      have h7 := num7_dig (vr_code hv')
      obtain ⟨h0, h1, hl⟩ := num7_of h7
      have hc : c' = val [UInt8.ofNat (48 + c').toNat] := dig_inj (vr_code hv') ⟨h0, by omega⟩ (by simpa using hl)
      refine h ⟨rfl, h7, ?_⟩
      rw [rn7_yes h7, ← hc]; exact hv'
  · refine ⟨(fun h => by cases h), fun _ => isR_no fun c' t' hv' e => hn ?_⟩
    rw [e]; simp
/-- What spec.ReadResult comes to. -/
theorem isR_short {l : List UInt8} (h : l.length < 2) : IsR l 0 [] false := isR_no fun c' t' _ e => by rw [e] at h; simp at h; omega
theorem isR_nodig {l : List UInt8} (h : ((l.headD 0).toNat : Int) < 48 ∨ 57 < ((l.headD 0).toNat : Int)) : IsR l 0 [] false := isR_no fun c' t' hv e => by
  rw [e] at h
  simp only [List.headD_cons] at h
  have := vr_code hv
  rw [UInt8.toNat_ofNat'] at h
  omega
theorem isR_spec {l : List UInt8} {x : UInt8} {c : Int} (h2 : 2 ≤ l.length) (hx : l.headD 0 = x) (hc : (x.toNat : Int) = 48 + c) (h0 : 0 ≤ c ∧ c ≤ 9) :
    (formR c (l.drop 2) = l → IsR l c (l.drop 2) true) ∧ (formR c (l.drop 2) ≠ l → IsR l 0 [] false) := by
  constructor
  · intro h
    unfold formR at h
    by_cases hv : vr c (l.drop 2) = true
    · rw [if_pos hv] at h
      exact ⟨fun _ => ⟨hv, h.symm⟩, (fun h => by cases h)⟩
    · rw [if_neg hv] at h
      rw [← h] at h2; simp at h2
  · intro h
    refine isR_no fun c' t' hv e => h ?_
    rw [e] at hx ⊢
    simp only [List.headD_cons] at hx
    have : c' = c := dig_inj (vr_code hv) h0 (by
      rw [hx]
      apply UInt8.toNat_inj.1
      rw [UInt8.toNat_ofNat']
      have := x.toNat_lt
      omega)
    subst this
    simp only [List.drop_succ_cons, List.drop_zero]
    unfold formR
    rw [if_pos hv]
def Is56 (l : List UInt8) (e : Ending) : Prop := ∃ (c : Int) (t : List UInt8) (ok : Bool), e = .returned (.tuple #[.agg #[.int .i64 c, .string (ofL t)], .bool ok]) ∧ IsR l c t ok ∧ t.length ≤ l.length
end Go.Proofs.Ytafneponofcdeaa
