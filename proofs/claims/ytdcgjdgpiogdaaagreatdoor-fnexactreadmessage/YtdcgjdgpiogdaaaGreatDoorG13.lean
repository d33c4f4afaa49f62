import Derived.Test.YtdcgjdgpiogdaaaGreatDoorG09
import Derived.Test.YtdcgjdgpiogdaaaGreatDoorYA
import Derived.WalkKit
import Derived.Laws.BytesArg
import Derived.Test.YtdcgjdgpiogdaaaGreatDoorRows
import Derived.Test.YtdcgjdgpiogdaaaGreatDoorG02
import Derived.WalkSpells
import Derived.WalkLawsBesides
namespace Go.Proofs.YtdcgjdgpiogdaaaGreatDoor
open Go.RowKit
theorem dec_small (n : Int) (h0 : 0 ≤ n) (h1 : n ≤ 1000) : (dec n).length ≤ 4 := by
  by_cases a : n < 10
  · rw [dec_lt n a]; simp
  · rw [dec_ge n (by omega), List.length_append]
    by_cases b : n / 10 < 10
    · rw [dec_lt _ b]; simp
    · rw [dec_ge (n / 10) (by omega), List.length_append]
      by_cases c : n / 10 / 10 < 10
      · rw [dec_lt _ c]; simp
      · rw [dec_ge (n / 10 / 10) (by omega), List.length_append]
        have d : n / 10 / 10 / 10 < 10 := by omega
        rw [dec_lt _ d]; simp
theorem dec_one (n : Int) (h1 : n < 10) : (dec n).length = 1 := by rw [dec_lt n h1]; rfl
theorem name_len {l : List UInt8} (h : nameOk l = true) : 1 ≤ l.length ∧ l.length ≤ 20 := by
  unfold nameOk at h
  rw [Bool.and_eq_true, decide_eq_true_eq] at h
  exact h.1
theorem vr_len {c : Int} {l : List UInt8} (h : vr c l = true) : l.length ≤ 300 := by
  rcases Nat.lt_or_ge 300 l.length with h1 | h1
  · rw [vr_long h1] at h; cases h
  · exact h1
theorem quote_len2 (l : List UInt8) : (quoteL l).length ≤ 3 * l.length + 2 := by
  have := flat_len l
  unfold quoteL
  simp only [List.length_cons, List.length_append, List.length_nil]
  omega
theorem lk_text {x : L4} (h : LkOk x) : x.nm.data.toList.length ≤ 20 ∧ x.tx.data.toList.length ≤ 300 := by
  have hn := name_len h.1
  refine ⟨hn.2, ?_⟩
  rcases h.2 with ⟨_, ⟨_, h⟩ | ⟨_, h⟩⟩ | ⟨_, h⟩
  · rw [h]; exact Nat.zero_le _
  · rw [h]; omega
  · exact vr_len h
theorem res_len {c : Int} {t : ByteArray} (h0 : 0 ≤ c) (h1 : c ≤ 7) (ht : t.data.toList.length ≤ 300) : (resL c t).length ≤ 904 := by
  have a := dec_one c (by omega)
  have b := quote_len2 t.data.toList
  unfold resL
  simp only [List.length_append, List.length_cons, List.length_nil]
  omega
theorem look_len {x : L4} (h : LkOk x) : (lookL x).length ≤ 930 := by
  obtain ⟨a, b⟩ := lk_text h
  have hc := lk_code h
  have r := res_len hc.1 hc.2 b
  have w4 : (wordA x.has).data.toList.length = 4 := by cases x.has <;> rfl
  unfold lookL
  simp only [List.length_append, List.length_cons, List.length_nil]
  omega
theorem looks_len' {ls : List L4} (h : LksOk ls) : ∀ k, k ≤ ls.length → (looksL (ls.take k)).length ≤ k * 930 := by
  intro k
  induction k with
  | zero => intro _; simp [looksL]
  | succ k ih =>
    intro hk
    rw [looks_snoc ls k (by omega), List.length_append]
    have := look_len (h.2 k (by omega))
    have := ih (by omega)
    omega
theorem looks_small {ls : List L4} (h : LksOk ls) : (looksL ls).length ≤ 13950 := by
  have := looks_len' h ls.length (Nat.le_refl _)
  rw [List.take_of_length_le (Nat.le_refl _)] at this
  have := h.1
  omega
theorem okM_len {x : M3} (h : okM x = true) : x.nm.data.toList.length ≤ 20 ∧ x.tl.data.toList.length ≤ 20 ∧ x.ar.data.toList.length ≤ 300 := by
  unfold okM at h
  simp only [Bool.and_eq_true, decide_eq_true_eq] at h
  have e : x.ar.data.toList.length = x.ar.size := by simp
  exact ⟨(name_len h.1.1).2, (name_len h.1.2).2, by omega⟩
theorem mom_le {a b : Int} (h : momOk a b = true) : (1 ≤ a ∧ a ≤ 200) ∧ (0 ≤ b ∧ b ≤ 1000) := by
  unfold momOk at h
  rw [Bool.and_eq_true, decide_eq_true_eq, decide_eq_true_eq] at h
  exact h
/-- An offer is short. -/
theorem offer_len {x : G16} (h : OfferOk x) : (offerL x).length ≤ 15000 := by
  obtain ⟨_, h1, h2, h3, h4⟩ := h
  obtain ⟨⟨p1, p2⟩, p3, p4⟩ := mom_le h2
  obtain ⟨m1, m2, m3⟩ := okM_len h3
  have a := dec_small x.to (by omega) (by omega)
  have b := dec_small x.ep (by omega) (by omega)
  have c := dec_small x.ed (by omega) (by omega)
  have d := quote_len2 x.km.ar.data.toList
  have e := looks_small h4
  unfold offerL whenL
  simp only [List.length_append, List.length_cons, List.length_nil]
  omega
end Go.Proofs.YtdcgjdgpiogdaaaGreatDoor
/-
  The plain mathematics of sums: no program is named here.
-/
namespace Go.Proofs.YtdcgjdgpiogdaaaGreatDoor
open Go.RowKit

/-- One byte more. -/
def hstep (x : Int) (c : UInt8) : Int := IntKind.u64.wrap (bits BinOp.xor IntKind.u64 x (IntKind.u64.wrap (c.toNat : Int)) * 1099511628211)
def hsum (l : List UInt8) : Int := l.foldl hstep 14695981039346656037

theorem wrap_u64_range (x : Int) : 0 ≤ IntKind.u64.wrap x ∧ IntKind.u64.wrap x ≤ 18446744073709551615 := by
  simp [IntKind.wrap, IntKind.signed, IntKind.bits]; omega
theorem hsum_range (l : List UInt8) : 0 ≤ hsum l ∧ hsum l ≤ 18446744073709551615 := by
  unfold hsum
  rcases List.eq_nil_or_concat l with h | ⟨l', c, h⟩
  · subst h; simp
  · subst h; simp only [List.concat_eq_append, List.foldl_append, List.foldl_cons, List.foldl_nil]; exact wrap_u64_range _
theorem hsum_snoc (l : List UInt8) (c : UInt8) : hsum (l ++ [c]) = hstep (hsum l) c := by simp [hsum]
/-- What is left behind k bytes; the bytes of a number, the k last ones. -/
def vAt (v : Int) : Nat → Int
  | 0 => v
  | k + 1 => vAt v k / 256
def outs (v : Int) : Nat → List Int
  | 0 => []
  | k + 1 => (vAt v k % 256) :: outs v k
theorem outs_length (v : Int) (k : Nat) : (outs v k).length = k := by induction k with
  | zero => rfl
  | succ k ih => simp [outs, ih]
theorem vAt_range (v : Int) (h0 : 0 ≤ v) (h1 : v ≤ 18446744073709551615) (k : Nat) : 0 ≤ vAt v k ∧ vAt v k ≤ 18446744073709551615 := by
  induction k with
  | zero => exact ⟨h0, h1⟩
  | succ k ih => simp only [vAt]; omega
theorem str_cons (x : Int) (l : List Int) : strOfNums [x] ++ strOfNums l = strOfNums (x :: l) := by
  apply ByteArray.ext
  simp [strOfNums]
theorem outs_range (v : Int) (k : Nat) : ∀ x ∈ outs v k, 0 ≤ x ∧ x ≤ 255 := by
  induction k with
  | zero => intro x h; simp [outs] at h
  | succ k ih =>
    intro x h
    simp only [outs, List.mem_cons] at h
    rcases h with h | h
    · subst h; omega
    · exact ih x h
end Go.Proofs.YtdcgjdgpiogdaaaGreatDoor
namespace Go.Proofs.YtdcgjdgpiogdaaaGreatDoor
/-- The key's byte j behind k rounds. -/
def kc (X : Int) (k j : Nat) : Int := if 8 ≤ j + k then vAt X (7 - j) % 256 else 0
theorem kc_zero (X : Int) (j : Nat) (_h : j < 8) : kc X 0 j = 0 := by unfold kc; rw [if_neg (by omega)]
theorem kc_same (X : Int) (k : Nat) (h : k < 8) : kc X (k + 1) (7 - k) = vAt X k % 256 := by
  unfold kc; rw [if_pos (by omega)]; congr 2; omega
theorem kc_other (X : Int) (k j : Nat) (_h : k < 8) (_hj : j < 8) (hne : j ≠ 7 - k) : kc X (k + 1) j = kc X k j := by
  unfold kc
  by_cases h1 : 8 ≤ j + k
  · rw [if_pos (by omega), if_pos h1]
  · rw [if_neg (by omega), if_neg h1]
end Go.Proofs.YtdcgjdgpiogdaaaGreatDoor
namespace Go.Proofs.YtdcgjdgpiogdaaaGreatDoor
theorem outs_getD (X : Int) (k i : Nat) (h : i < k) : (outs X k).getD i 0 = vAt X (k - 1 - i) % 256 := by
  induction k generalizing i with
  | zero => omega
  | succ k ih =>
    cases i with
    | zero => simp [outs]
    | succ i =>
      simp only [outs, List.getD_cons_succ]
      rw [ih i (by omega)]
      congr 2
      omega
theorem kc_outs (X : Int) (k i : Nat) (hk : k ≤ 8) (h : i < k) : kc X k (8 - k + i) = (outs X k).getD i 0 := by
  rw [outs_getD X k i h]
  unfold kc
  rw [if_pos (by omega)]
  congr 2
  omega
end Go.Proofs.YtdcgjdgpiogdaaaGreatDoor
namespace Go.Proofs.YtdcgjdgpiogdaaaGreatDoor
open Go.RowKit

set_option maxHeartbeats 400000 in
theorem c73 (s : ByteArray) (w : World) (hs : s.size ≤ 1048700) :
    Calls Tryz.prog 73 #[.string s] w fun e w' => e = .returned (.int .u64 (hsum s.data.toList)) ∧ w' = w := by
  go_enter Tryz.func73, Tryz.ntmps73
  go_wp2
  go_loop [3, 4] (fun v i => ∃ k : Nat, k ≤ s.size ∧ i = .int .i64 k ∧ v = .int .u64 (hsum (s.data.toList.take k))) (fun _ i => s.size - (intOf i).toNat)
  case atStart => exact ⟨0, Nat.zero_le _, rfl, rfl⟩
  case round =>
    obtain ⟨k, hk, rfl, rfl⟩ := hrel
    have hx := hsum_range (s.data.toList.take k)
    by_cases hlt : k < s.size
    · have HS : Hid (hsum (s.data.toList.take (k + 1)) = hstep (hsum (s.data.toList.take k)) s[k]) := by rw [take_snoc s k hlt]; exact hsum_snoc _ _
      go_wp2
      go_round
      case rel => exact ⟨k + 1, by omega, by go_num, by rw [HS.out]; rfl⟩
      case measure => simp [intOf]; omega
    · go_wp2
      go_ret
      exact ⟨ret_int (by rw [List.take_of_length_le (by simp; omega)]), rfl⟩

set_option maxHeartbeats 400000 in
theorem c130 (s : ByteArray) (w : World) (hs : s.size ≤ 1048700) :
    Calls Tryz.prog 130 #[.string s] w fun e w' => e = .returned (.int .u64 (hsum s.data.toList)) ∧ w' = w := by
  go_enter Tryz.func130, Tryz.ntmps130
  go_wp2
  go_loop [3, 7] (fun v i => ∃ k : Nat, k ≤ s.size ∧ i = .int .i64 k ∧ v = .int .u64 (hsum (s.data.toList.take k))) (fun _ i => s.size - (intOf i).toNat)
  case atStart => exact ⟨0, Nat.zero_le _, rfl, rfl⟩
  case round =>
    obtain ⟨k, hk, rfl, rfl⟩ := hrel
    have hx := hsum_range (s.data.toList.take k)
    by_cases hlt : k < s.size
    · have HS : Hid (hsum (s.data.toList.take (k + 1)) = hstep (hsum (s.data.toList.take k)) s[k]) := by rw [take_snoc s k hlt]; exact hsum_snoc _ _
      go_wp2
      go_round
      case rel => exact ⟨k + 1, by omega, by go_num, by rw [HS.out]; rfl⟩
      case measure => simp [intOf]; omega
    · go_wp2
      go_ret
      exact ⟨ret_int (by rw [List.take_of_length_le (by simp; omega)]), rfl⟩

set_option maxHeartbeats 400000 in
theorem c72 (v : Int) (n : Nat) (w : World) (hv0 : 0 ≤ v) (hv1 : v ≤ 18446744073709551615) (hn : n ≤ 8) :
    Calls Tryz.prog 72 #[.int .u64 v, .int .i64 n] w fun e w' => e = .returned (.string (strOfNums (outs v n))) ∧ Below w.heap.size w w' := by
  have hcv := conv1
  have hz : ∀ y, (strOfNums [y]).size = 1 := fun y => strOfNums_size [y]
  go_enter Tryz.func72, Tryz.ntmps72
  go_wp2
  go_loopw [0, 5, 6] (fun a o i wr => ∃ k : Nat, k ≤ n ∧ i = .int .i64 k ∧ a = .int .u64 (vAt v k) ∧ o = .string (strOfNums (outs v k)) ∧ Below w.heap.size w wr) (fun _ _ i _ => n - (intOf i).toNat)
  case atStart => exact ⟨0, Nat.zero_le _, rfl, rfl, rfl, Below.refl _ _⟩
  case round =>
    obtain ⟨k, hk, rfl, rfl, rfl, hb⟩ := hrel
    have hx := vAt_range v hv0 hv1 k
    have hq : (strOfNums (outs v k)).size = k := by rw [strOfNums_size, outs_length]
    by_cases hlt : k < n
    · go_wp2
      go_roundw
      case rel => exact ⟨k + 1, by omega, by go_num, rfl, by rw [str_cons]; rfl, hb.alloc hb.size _⟩
      case measure => simp [intOf]; omega
    · go_wp2
      go_ret
      obtain rfl : k = n := by omega
      exact ⟨rfl, hb⟩
end Go.Proofs.YtdcgjdgpiogdaaaGreatDoor
namespace Go.Proofs.YtdcgjdgpiogdaaaGreatDoor
open Go.RowKit

set_option maxHeartbeats 400000 in
theorem c113 (s : ByteArray) (n : Nat) (w : World) (hn : n ≤ 8) (hs : s.size ≤ 1048700) :
    Calls Tryz.prog 113 #[.string s, .int .i64 n] w fun e w' => (∃ X, X = hsum s.data.toList ∧ e = .returned (.agg #[.int .u8 (kc X n 0), .int .u8 (kc X n 1), .int .u8 (kc X n 2), .int .u8 (kc X n 3), .int .u8 (kc X n 4), .int .u8 (kc X n 5), .int .u8 (kc X n 6), .int .u8 (kc X n 7)])) ∧ Below w.heap.size w w' := by
  go_enter Tryz.func113, Tryz.ntmps113
  go_wp2_with fail
  refine (c130 _ _ hs).mono ?_
  rintro e w' ⟨rfl, rfl⟩
  have hx := hsum_range s.data.toList
  generalize hX : hsum s.data.toList = X at *
  have HX : Hid (X = hsum s.data.toList) := hX.symm
  clear hX
  go_wp2_with fail
  go_loopw [6, 11] (fun a i wr => ∃ k : Nat, k ≤ n ∧ i = .int .i64 k ∧ a = .int .u64 (vAt X k) ∧ Below w.heap.size w wr ∧ w.heap.size + 2 ≤ wr.heap.size ∧ (∀ j, j < 8 → wr.cell? ⟨w.heap.size + 1, j, none⟩ = some (.int .u8 (kc X k j))) ∧ (∀ j, wr.frozen? ⟨w.heap.size + 1, j, none⟩ = false) ∧ (∀ j, j < 8 → wr.cell? ⟨w.heap.size, j, none⟩ = some (.int .u8 0)) ∧ (∀ j, wr.frozen? ⟨w.heap.size, j, none⟩ = false)) (fun _ i _ => n - (intOf i).toNat)
  case atStart =>
    refine ⟨0, Nat.zero_le _, rfl, rfl, ((Below.refl _ _).alloc (Nat.le_refl _) _).alloc (by simp) _, by simp, ?_, ?_, ?_, ?_⟩
    · intro j hj
      rw [kc_zero X j hj]
      rcases j with _ | _ | _ | _ | _ | _ | _ | _ | j <;> first | omega | simp
    · intro j; simp
    · intro j hj
      rcases j with _ | _ | _ | _ | _ | _ | _ | _ | j <;> first | omega | simp
    · intro j; simp
  case round =>
    obtain ⟨k, hk, rfl, rfl, hb, hz, h1, f1, h0, f0⟩ := hrel
    have hx := vAt_range X hx.1 hx.2 k
    by_cases hlt : k < n
    · have g1 := h1 (7 - k) (by omega)
      have g2 := f1 (7 - k)
      go_wp2
      go_roundw
      case rel =>
        refine ⟨k + 1, by omega, by go_num, rfl, hb.setCell (by simp) _, by simpa using hz, ?_, ?_, ?_, ?_⟩
        · intro j hj
          by_cases e : j = 7 - k
          · subst e
            rw [kc_same X k (by omega)]
            exact World.cell?_setCell_same _ _ _ g1
          · rw [kc_other X k j (by omega) hj e, ← h1 j hj]
            exact World.cell?_setCell_other _ _ _ _ (by intro h; injection h with h1 h2; exact e h2.symm)
        · intro j; rw [← f1 j]; simp
        · intro j hj; rw [← h0 j hj]; exact World.cell?_setCell_other _ _ _ _ (by simp)
        · intro j; rw [← f0 j]; simp
      case measure => simp [intOf]; omega
    · have a0 := h1 0 (by omega)
      have a1 := h1 1 (by omega)
      have a2 := h1 2 (by omega)
      have a3 := h1 3 (by omega)
      have a4 := h1 4 (by omega)
      have a5 := h1 5 (by omega)
      have a6 := h1 6 (by omega)
      have a7 := h1 7 (by omega)
      have b0 := h0 0 (by omega)
      have b1 := h0 1 (by omega)
      have b2 := h0 2 (by omega)
      have b3 := h0 3 (by omega)
      have b4 := h0 4 (by omega)
      have b5 := h0 5 (by omega)
      have b6 := h0 6 (by omega)
      have b7 := h0 7 (by omega)
      clear h1 h0
      go_wp2
      obtain rfl : k = n := by omega
      refine bodyPost_ret (v := .agg #[.int .u8 (kc X k 0), .int .u8 (kc X k 1), .int .u8 (kc X k 2), .int .u8 (kc X k 3), .int .u8 (kc X k 4), .int .u8 (kc X k 5), .int .u8 (kc X k 6), .int .u8 (kc X k 7)]) (by simp [results, Tryz.results113, go_sem, b0, b1, b2, b3, b4, b5, b6, b7]) rfl ⟨⟨X, HX.out, rfl⟩, ?_⟩
      have st : ∀ (u : World) (j : Nat) (x : Value), Below w.heap.size w u → Below w.heap.size w (u.setCell ⟨w.heap.size, j, none⟩ x) := fun u j x h => h.setCell (Nat.le_refl _) x
      iterate 8 refine st _ _ _ ?_
      exact hb

end Go.Proofs.YtdcgjdgpiogdaaaGreatDoor
namespace Go.Proofs.YtdcgjdgpiogdaaaGreatDoor
open Go.RowKit

/-- What a sum is. -/
def sumS (s : ByteArray) (n : Int) : ByteArray := if 1 ≤ n ∧ n ≤ 8 then strOfNums (outs (hsum s.data.toList) n.toNat) else ByteArray.empty

set_option maxHeartbeats 400000 in
theorem c112 (n : Int) (w : World) :
    Calls Tryz.prog 112 #[.int .i64 n] w fun e w' => e = .returned (.bool (decide (1 ≤ n ∧ n ≤ 8))) ∧ w' = w := by
  by_cases h1 : 1 ≤ n <;> by_cases h2 : n ≤ 8
  all_goals
    go_enter Tryz.func112, Tryz.ntmps112
    go_wp2
    all_goals go_ret
    all_goals exact ⟨by simp [*], rfl⟩

theorem sl50 (u : World) (b k : Nat) (h1 : 1 ≤ k) (h2 : k ≤ 8) :
    (Instr.sliceAt 146 (.pointer (some ⟨b, 0, none⟩)) (some (.int .i64 (8 - (k : Int)))) none none).run Tryz.prog u = .ok (.slice (some ⟨b, 8 - k, none⟩) k k) u := by
  obtain rfl | rfl | rfl | rfl | rfl | rfl | rfl | rfl : k = 1 ∨ k = 2 ∨ k = 3 ∨ k = 4 ∨ k = 5 ∨ k = 6 ∨ k = 7 ∨ k = 8 := by omega
  all_goals kernel_rfl

/-- The key's cells, as a block holds them. -/
theorem cvKey (u : World) (X : Int) (k : Nat) (h2 : k ≤ 8) :
    (convert 119 9 (.slice (some ⟨u.heap.size, 8 - k, none⟩) k k)).run Tryz.prog (u.alloc (.cells #[.int .u8 (kc X k 0), .int .u8 (kc X k 1), .int .u8 (kc X k 2), .int .u8 (kc X k 3), .int .u8 (kc X k 4), .int .u8 (kc X k 5), .int .u8 (kc X k 6), .int .u8 (kc X k 7)] 146))
      = .ok (.string (strOfNums (outs X k))) (u.alloc (.cells #[.int .u8 (kc X k 0), .int .u8 (kc X k 1), .int .u8 (kc X k 2), .int .u8 (kc X k 3), .int .u8 (kc X k 4), .int .u8 (kc X k 5), .int .u8 (kc X k 6), .int .u8 (kc X k 7)] 146)) :=
  run_convert_bytes_arg _ 119 5 Tryz.underlying119 Tryz.underlying5 _ (8 - k) k k (outs X k) (outs_length X k) (fun i hi => by
    rw [← kc_outs X k i h2 hi]
    have hj : 8 - k + i < 8 := by omega
    generalize 8 - k + i = j at hj ⊢
    obtain rfl | rfl | rfl | rfl | rfl | rfl | rfl | rfl : j = 0 ∨ j = 1 ∨ j = 2 ∨ j = 3 ∨ j = 4 ∨ j = 5 ∨ j = 6 ∨ j = 7 := by omega
    all_goals simp) 9 Tryz.underlying9

set_option maxHeartbeats 400000 in
theorem c85 (s : ByteArray) (n : Int) (w : World) (hs : s.size ≤ 1048700) :
    Calls Tryz.prog 85 #[.string s, .int .i64 n] w fun e w' => e = .returned (.string (sumS s n)) ∧ Below w.heap.size w w' := by
  by_cases h : 1 ≤ n ∧ n ≤ 8
  · have hd : decide (1 ≤ n ∧ n ≤ 8) = true := by simpa using h
    have hx := hsum_range s.data.toList
    obtain ⟨k, rfl⟩ := Int.eq_ofNat_of_zero_le (show 0 ≤ n by omega)
    have hS : Hid (sumS s k = strOfNums (outs (hsum s.data.toList) k)) := by unfold sumS; rw [if_pos h]; rfl
    go_enter Tryz.func85, Tryz.ntmps85
    go_wp2_with fail
    refine (c112 _ _).mono ?_
    rintro e w' ⟨rfl, rfl⟩
    rw [hd]
    go_wp2_with fail
    refine (c113 _ _ _ (by omega) hs).mono ?_
    rintro e w' ⟨⟨X, hX, rfl⟩, hb⟩
    have HX : Hid (X = hsum s.data.toList) := hX
    clear hX
    have g1 := fun (u : World) (b : Nat) => sl50 u b k (by omega) (by omega)
    have g2 := fun (u : World) => cvKey u X k (by omega)
    go_wp2
    go_ret
    exact ⟨by rw [hS.out, ← HX.out]; rfl, hb.alloc hb.size _⟩
  · have hd : decide (1 ≤ n ∧ n ≤ 8) = false := by simpa using h
    have hS : Hid (sumS s n = ByteArray.empty) := by unfold sumS; rw [if_neg h]; rfl
    go_enter Tryz.func85, Tryz.ntmps85
    go_wp2_with fail
    refine (c112 _ _).mono ?_
    rintro e w' ⟨rfl, rfl⟩
    rw [hd]
    go_wp2
    go_ret
    exact ⟨by rw [hS.out]; rfl, Below.refl _ _⟩

end Go.Proofs.YtdcgjdgpiogdaaaGreatDoor
namespace Go.Proofs.YtdcgjdgpiogdaaaGreatDoor
open Go.RowKit
/-- What a tag is. -/
def tagS (b k : ByteArray) : ByteArray := if 30 < k.size then ByteArray.empty else strOfNums (outs (hsum (k ++ ⟨#[0]⟩ ++ b).data.toList) 8)
theorem cat_size (b k : ByteArray) : (k ++ ⟨#[0]⟩ ++ b).size = k.size + 1 + b.size := by
  rw [ByteArray.size_append, ByteArray.size_append]; rfl
theorem c39 (k : ByteArray) (w : World) (hk : k.size ≤ 1048576) :
    Calls Tryz.prog 39 #[.string k] w fun e w' => e = .returned (.bool (decide (k.size ≤ 30))) ∧ w' = w := by
  by_cases h : k.size ≤ 30
  all_goals
    go_enter Tryz.func39, Tryz.ntmps39
    go_wp2
    go_ret
    exact ⟨by simp [h]; try omega, rfl⟩

set_option maxHeartbeats 400000 in
theorem c34 (b k : ByteArray) (w : World) (hb : b.size ≤ 1048576) (hk : k.size ≤ 1048576) :
    Calls Tryz.prog 34 #[.string b, .string k] w fun e w' => e = .returned (.string (tagS b k)) ∧ Below w.heap.size w w' := by
  by_cases h : 30 < k.size
  · go_enter Tryz.func34, Tryz.ntmps34
    go_wp2
    go_ret
    exact ⟨by unfold tagS; rw [if_pos h]; rfl, Below.refl _ _⟩
  · have hT : Hid (tagS b k = strOfNums (outs (hsum (k ++ ⟨#[0]⟩ ++ b).data.toList) 8)) := by unfold tagS; rw [if_neg h]; rfl
    go_enter Tryz.func34, Tryz.ntmps34
    go_wp2_with fail
    refine (c73 _ _ (by rw [cat_size]; omega)).mono ?_
    rintro e w' ⟨rfl, rfl⟩
    have hx := hsum_range (k ++ ⟨#[0]⟩ ++ b).data.toList
    generalize hsum (k ++ ⟨#[0]⟩ ++ b).data.toList = X at *
    go_wp2_with fail
    refine (c72 X 8 _ hx.1 hx.2 (by omega)).mono ?_
    rintro e w1 ⟨rfl, hb1⟩
    go_wp2
    go_ret
    exact ⟨by rw [hT.out]; rfl, hb1⟩

set_option maxHeartbeats 400000 in
theorem c41 (b k : ByteArray) (w : World) (hb : b.size ≤ 1048576) (hk : k.size ≤ 1048576) :
    Calls Tryz.prog 41 #[.string b, .string k] w fun e w' => e = .returned (.string (tagS b k)) ∧ Below w.heap.size w w' := by
  by_cases h : 30 < k.size
  · have hd : decide (k.size ≤ 30) = false := by simpa using h
    go_enter Tryz.func41, Tryz.ntmps41
    go_wp2_with fail
    refine (c39 _ _ hk).mono ?_
    rintro e w' ⟨rfl, rfl⟩
    rw [hd]
    go_wp2
    go_ret
    exact ⟨by unfold tagS; rw [if_pos h]; rfl, Below.refl _ _⟩
  · have hd : decide (k.size ≤ 30) = true := by simpa using h
    have hT : Hid (tagS b k = sumS (k ++ ⟨#[0]⟩ ++ b) 8) := by unfold tagS sumS; rw [if_neg h, if_pos (by omega)]; rfl
    go_enter Tryz.func41, Tryz.ntmps41
    go_wp2_with fail
    refine (c39 _ _ hk).mono ?_
    rintro e w' ⟨rfl, rfl⟩
    rw [hd]
    go_wp2_with fail
    refine (c85 _ _ _ (by rw [cat_size]; omega)).mono ?_
    rintro e w1 ⟨rfl, hb1⟩
    go_wp2
    go_ret
    exact ⟨by rw [hT.out]; rfl, hb1⟩


end Go.Proofs.YtdcgjdgpiogdaaaGreatDoor
