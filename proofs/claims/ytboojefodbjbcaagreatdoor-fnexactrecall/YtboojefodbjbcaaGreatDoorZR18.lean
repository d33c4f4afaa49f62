import Derived.WalkKit
import Derived.Laws.BytesArg
import Derived.Test.YtboojefodbjbcaaGreatDoorProg
import Derived.WalkSpells
import Derived.WalkLawsBesides
/-
 The plain mathematics of names and decimals: no program is named here.
-/
namespace Go.Proofs.YtboojefodbjbcaaGreatDoor
open Go.RowKit
def isDig (c : UInt8) : Bool := decide (48 ≤ (c.toNat : Int) ∧ (c.toNat : Int) ≤ 57)
def isGraph (c : UInt8) : Bool := decide (33 ≤ (c.toNat : Int) ∧ (c.toNat : Int) ≤ 126)
def nameOk (l : List UInt8) : Bool := decide (1 ≤ l.length ∧ l.length ≤ 20) && l.all isGraph
def vstep (n : Int) (c : UInt8) : Int := n * 10 + ((c.toNat : Int) - 48)
def val (l : List UInt8) : Int := l.foldl vstep 0
theorem val_snoc (l : List UInt8) (c : UInt8) : val (l ++ [c]) = val l * 10 + ((c.toNat : Int) - 48) := by simp [val, vstep]
theorem dig_iff (c : UInt8) : isDig c = true ↔ 48 ≤ (c.toNat : Int) ∧ (c.toNat : Int) ≤ 57 := by simp [isDig]
theorem graph_iff (c : UInt8) : isGraph c = true ↔ 33 ≤ (c.toNat : Int) ∧ (c.toNat : Int) ≤ 126 := by simp [isGraph]
theorem snoc_ind {P : List UInt8 → Prop} (h0 : P []) (h1 : ∀ l c, P l → P (l ++ [c])) (l : List UInt8) : P l := by
 have h : ∀ r : List UInt8, P r.reverse := fun r => by
  induction r with
  | nil => exact h0
  | cons c r ih => rw [List.reverse_cons]; exact h1 _ _ ih
 have := h l.reverse
 rwa [List.reverse_reverse] at this
theorem val_nonneg (l : List UInt8) : l.all isDig = true → 0 ≤ val l := by
 refine snoc_ind (P := fun l => l.all isDig = true → 0 ≤ val l) (by simp [val]) (fun l c ih h => ?_) l
 rw [List.all_append] at h
 simp only [List.all_cons, List.all_nil, Bool.and_true, Bool.and_eq_true] at h
 have := ih h.1
 have hc := (dig_iff c).1 h.2
 rw [val_snoc]; omega
theorem val_take_le (l : List UInt8) : l.all isDig = true → ∀ k, val (l.take k) ≤ val l := by
 refine snoc_ind (P := fun l => l.all isDig = true → ∀ k, val (l.take k) ≤ val l) (by simp [val]) (fun l c ih h k => ?_) l
 rw [List.all_append] at h
 simp only [List.all_cons, List.all_nil, Bool.and_true, Bool.and_eq_true] at h
 by_cases hk : k ≤ l.length
 · rw [List.take_append_of_le_length hk, val_snoc]
   have := ih h.1 k
   have h0 := val_nonneg l h.1
   have hc := (dig_iff c).1 h.2
   omega
 · rw [List.take_of_length_le (by simp; omega)]; exact Int.le_refl _
def lean1 (l : List UInt8) : Bool := !l.isEmpty && !(l.headD 0 == 48 && !(l == [48]))
def num40 (l : List UInt8) : Bool := lean1 l && l.all isDig && decide (val l ≤ 40)
def decF : Nat → Int → List UInt8
 | 0, _ => []
 | f + 1, n => if n < 10 then [UInt8.ofNat (48 + n).toNat] else decF f (n / 10) ++ [UInt8.ofNat (48 + n % 10).toNat]
def dec (n : Int) : List UInt8 := decF (n.toNat + 1) n
theorem decF_any (f g : Nat) (n : Int) (h0 : 0 ≤ n) (hf : n.toNat < f) (hg : n.toNat < g) : decF f n = decF g n := by
 induction f generalizing g n with
 | zero => omega
 | succ f ih =>
  cases g with
  | zero => omega
  | succ g =>
   simp only [decF]
   by_cases h : n < 10
   · rw [if_pos h, if_pos h]
   · rw [if_neg h, if_neg h, ih g (n / 10) (by omega) (by omega) (by omega)]
theorem dec_lt (n : Int) (h : n < 10) : dec n = [UInt8.ofNat (48 + n).toNat] := by simp [dec, decF, h]
theorem dec_ge (n : Int) (h : 10 ≤ n) : dec n = dec (n / 10) ++ [UInt8.ofNat (48 + n % 10).toNat] := by
 unfold dec
 rw [decF, if_neg (by omega), decF_any n.toNat ((n / 10).toNat + 1) (n / 10) (by omega) (by omega) (by omega)]
theorem dec_ne (n : Int) : dec n ≠ [] := by
 by_cases h : n < 10
 · rw [dec_lt n h]; simp
 · rw [dec_ge n (by omega)]; simp
theorem ofNat_dig (c : UInt8) (h : isDig c = true) : UInt8.ofNat (48 + ((c.toNat : Int) - 48)).toNat = c := by
 have := (dig_iff c).1 h
 rw [show (48 + ((c.toNat : Int) - 48)).toNat = c.toNat by omega]
 exact UInt8.ofNat_toNat
theorem dec_val (l : List UInt8) : l.all isDig = true → lean1 l = true → dec (val l) = l ∧ (2 ≤ l.length → 10 ≤ val l) ∧ (l.headD 0 ≠ 48 → 1 ≤ val l) := by
 refine snoc_ind (P := fun l => l.all isDig = true → lean1 l = true → dec (val l) = l ∧ (2 ≤ l.length → 10 ≤ val l) ∧ (l.headD 0 ≠ 48 → 1 ≤ val l)) (by simp [lean1]) (fun l c ih h hl => ?_) l
 rw [List.all_append] at h
 simp only [List.all_cons, List.all_nil, Bool.and_true, Bool.and_eq_true] at h
 have hc := (dig_iff c).1 h.2
 have hd := ofNat_dig c h.2
 cases l with
 | nil =>
  have e : val ([] ++ [c]) = (c.toNat : Int) - 48 := by rw [val_snoc]; simp [val]
  rw [e]
  refine ⟨?_, by simp, ?_⟩
  · rw [dec_lt _ (by omega), hd]; rfl
  · intro h1
    simp at h1
    have : c.toNat ≠ 48 := fun e => h1 (by rw [← UInt8.toNat_inj]; exact e)
    omega
 | cons a r =>
  have ha : a ≠ 48 := by
   intro e
   subst e
   simp [lean1] at hl
  have hl' : lean1 (a :: r) = true := by simp [lean1, ha]
  obtain ⟨h1, _, h3⟩ := ih h.1 hl'
  have h4 := h3 (by simpa using ha)
  rw [val_snoc]
  have hdiv : (val (a :: r) * 10 + ((c.toNat : Int) - 48)) / 10 = val (a :: r) := by omega
  have hmod : (val (a :: r) * 10 + ((c.toNat : Int) - 48)) % 10 = (c.toNat : Int) - 48 := by omega
  refine ⟨?_, fun _ => by omega, fun _ => by omega⟩
  rw [dec_ge _ (by omega), hdiv, hmod, h1, hd]
theorem dec_lean (f : Nat) (n : Int) (h0 : 0 ≤ n) (hf : n.toNat < f) : lean1 (dec n) = true ∧ (1 ≤ n → (dec n).headD 0 ≠ 48) := by
 induction f generalizing n with
 | zero => omega
 | succ f ih =>
  by_cases h : n < 10
  · rw [dec_lt n h]
    obtain rfl | rfl | rfl | rfl | rfl | rfl | rfl | rfl | rfl | rfl : n = 0 ∨ n = 1 ∨ n = 2 ∨ n = 3 ∨ n = 4 ∨ n = 5 ∨ n = 6 ∨ n = 7 ∨ n = 8 ∨ n = 9 := by omega
    all_goals decide
  · obtain ⟨h1, h2⟩ := ih (n / 10) (by omega) (by omega)
    have h3 := h2 (by omega)
    rw [dec_ge n (by omega)]
    have hne := dec_ne (n / 10)
    generalize dec (n / 10) = l at *
    cases l with
    | nil => exact absurd rfl hne
    | cons a r =>
     have ha : a ≠ 48 := by simpa using h3
     exact ⟨by simp [lean1, ha], fun _ => by simpa using ha⟩
theorem val_dig_len (l : List UInt8) (h : l.all isDig = true) (hl : lean1 l = true) (h40 : val l ≤ 40) : l.length ≤ 2 := by
 rcases Nat.lt_or_ge 2 l.length with h2 | h2
 · exfalso
   rcases List.eq_nil_or_concat l with e | ⟨r, c, e⟩
   · subst e; simp at h2
   · rw [List.concat_eq_append] at e
     subst e
     rw [List.all_append] at h
     simp only [List.all_cons, List.all_nil, Bool.and_true, Bool.and_eq_true] at h
     have hr : 2 ≤ r.length := by simp at h2; omega
     cases r with
     | nil => simp at hr
     | cons a r =>
      have ha : a ≠ 48 := by
       intro e
       subst e
       simp [lean1] at hl
      have := (dec_val (a :: r) h.1 (by simp [lean1, ha])).2.1 hr
      have hc := (dig_iff c).1 h.2
      rw [val_snoc] at h40
      omega
 · exact h2
end Go.Proofs.YtboojefodbjbcaaGreatDoor
namespace Go.Proofs.YtboojefodbjbcaaGreatDoor
theorem decF_len (f : Nat) (n : Int) : (decF f n).length ≤ f := by
 induction f generalizing n with
 | zero => simp [decF]
 | succ f ih =>
  simp only [decF]
  by_cases h : n < 10
  · rw [if_pos h]; simp
  · rw [if_neg h]; have := ih (n / 10); simp; omega
theorem dec_len (n : Int) (h : 0 ≤ n) (h1 : n ≤ 100000000) : (dec n).length ≤ 100000001 := by
 have := decF_len (n.toNat + 1) n
 unfold dec; omega
theorem div_form (n : Int) (h : 0 ≤ n) (h1 : n ≤ 100000000) : IntKind.i64.wrap (n.tdiv 10) = n / 10 := by
 rw [Int.tdiv_eq_ediv_of_nonneg h]
 simp [IntKind.wrap, IntKind.signed, IntKind.bits]; omega
end Go.Proofs.YtboojefodbjbcaaGreatDoor
/-
 The plain mathematics of sums: no program is named here.
-/
namespace Go.Proofs.YtboojefodbjbcaaGreatDoor
open Go.RowKit
def hstep (x : Int) (c : UInt8) : Int := IntKind.u64.wrap (bits BinOp.xor IntKind.u64 x (IntKind.u64.wrap (c.toNat : Int)) * 1099511628211)
def hsum (l : List UInt8) : Int := l.foldl hstep 14695981039346656037
theorem wrap_u64_range (x : Int) : 0 ≤ IntKind.u64.wrap x ∧ IntKind.u64.wrap x ≤ 18446744073709551615 := by
 simp [IntKind.wrap, IntKind.signed, IntKind.bits]; omega
theorem hsum_range (l : List UInt8) : 0 ≤ hsum l ∧ hsum l ≤ 18446744073709551615 := by
 unfold hsum
 rcases List.eq_nil_or_concat l with h | ⟨l', c, h⟩
 · subst h; simp
 · subst h; simp only [List.concat_eq_append, List.foldl_append, List.foldl_cons, List.foldl_nil]; exact wrap_u64_range _
theorem hsum_snoc (l : List UInt8) (c : UInt8) : hsum (l ++ [c]) = hstep (hsum l) c := by simp [hsum]
theorem take_snoc (s : ByteArray) (k : Nat) (h : k < s.size) : s.data.toList.take (k + 1) = s.data.toList.take k ++ [s[k]] := by
 rw [List.take_succ_eq_append_getElem (by simpa using h)]; rfl
def vAt (v : Int) : Nat → Int
 | 0 => v
 | k + 1 => vAt v k / 256
def outs (v : Int) : Nat → List Int
 | 0 => []
 | k + 1 => (vAt v k % 256) :: outs v k
theorem outs_length (v : Int) (k : Nat) : (outs v k).length = k := by induction k with
 | zero => rfl
 | succ k ih => simp [outs, ih]
theorem vAt_range (v : Int) (h0 : 0 ≤ v) (h1 : v ≤ 18446744073709551615) (k : Nat) : 0 ≤ vAt v k ∧ vAt v k ≤ 18446744073709551615 := by
 induction k with
 | zero => exact ⟨h0, h1⟩
 | succ k ih => simp only [vAt]; omega
theorem str_cons (x : Int) (l : List Int) : strOfNums [x] ++ strOfNums l = strOfNums (x :: l) := by
 apply ByteArray.ext
 simp [strOfNums]
end Go.Proofs.YtboojefodbjbcaaGreatDoor
namespace Go.Proofs.YtboojefodbjbcaaGreatDoor
def kc (X : Int) (k j : Nat) : Int := if 8 ≤ j + k then vAt X (7 - j) % 256 else 0
theorem kc_zero (X : Int) (j : Nat) (_h : j < 8) : kc X 0 j = 0 := by unfold kc; rw [if_neg (by omega)]
theorem kc_same (X : Int) (k : Nat) (h : k < 8) : kc X (k + 1) (7 - k) = vAt X k % 256 := by
 unfold kc; rw [if_pos (by omega)]; congr 2; omega
theorem kc_other (X : Int) (k j : Nat) (_h : k < 8) (_hj : j < 8) (hne : j ≠ 7 - k) : kc X (k + 1) j = kc X k j := by
 unfold kc
 by_cases h1 : 8 ≤ j + k
 · rw [if_pos (by omega), if_pos h1]
 · rw [if_neg (by omega), if_neg h1]
end Go.Proofs.YtboojefodbjbcaaGreatDoor
namespace Go.Proofs.YtboojefodbjbcaaGreatDoor
theorem outs_getD (X : Int) (k i : Nat) (h : i < k) : (outs X k).getD i 0 = vAt X (k - 1 - i) % 256 := by
 induction k generalizing i with
 | zero => omega
 | succ k ih =>
  cases i with
  | zero => simp [outs]
  | succ i =>
   simp only [outs, List.getD_cons_succ]
   rw [ih i (by omega)]
   congr 2
   omega
theorem kc_outs (X : Int) (k i : Nat) (hk : k ≤ 8) (h : i < k) : kc X k (8 - k + i) = (outs X k).getD i 0 := by
 rw [outs_getD X k i h]
 unfold kc
 rw [if_pos (by omega)]
 congr 2
 omega
end Go.Proofs.YtboojefodbjbcaaGreatDoor
namespace Go.Proofs.YtboojefodbjbcaaGreatDoor
open Go.RowKit
theorem ret_int {k : IntKind} {a b : Int} (h : a = b) : Ending.returned (.int k a) = .returned (.int k b) := by rw [h]
set_option maxHeartbeats 400000 in
theorem c75 (s : ByteArray) (w : World) (hs : s.size ≤ 1048700) :
 Calls Tryz.prog 75 #[.string s] w fun e w' => e = .returned (.int .u64 (hsum s.data.toList)) ∧ w' = w := by
 go_enter Tryz.func75, Tryz.ntmps75
 go_wp2
 go_loop [3, 4] (fun v i => ∃ k : Nat, k ≤ s.size ∧ i = .int .i64 k ∧ v = .int .u64 (hsum (s.data.toList.take k))) (fun _ i => s.size - (intOf i).toNat)
 case atStart => exact ⟨0, Nat.zero_le _, rfl, rfl⟩
 case round =>
  obtain ⟨k, hk, rfl, rfl⟩ := hrel
  have hx := hsum_range (s.data.toList.take k)
  by_cases hlt : k < s.size
  · have HS : Hid (hsum (s.data.toList.take (k + 1)) = hstep (hsum (s.data.toList.take k)) s[k]) := by rw [take_snoc s k hlt]; exact hsum_snoc _ _
    go_wp2
    go_round
    case rel => exact ⟨k + 1, by omega, by go_num, by rw [HS.out]; rfl⟩
    case measure => simp [intOf]; omega
  · go_wp2
    go_ret
    exact ⟨ret_int (by rw [List.take_of_length_le (by simp; omega)]), rfl⟩
set_option maxHeartbeats 400000 in
theorem c133 (s : ByteArray) (w : World) (hs : s.size ≤ 1048700) :
 Calls Tryz.prog 133 #[.string s] w fun e w' => e = .returned (.int .u64 (hsum s.data.toList)) ∧ w' = w := by
 go_enter Tryz.func133, Tryz.ntmps133
 go_wp2
 go_loop [3, 7] (fun v i => ∃ k : Nat, k ≤ s.size ∧ i = .int .i64 k ∧ v = .int .u64 (hsum (s.data.toList.take k))) (fun _ i => s.size - (intOf i).toNat)
 case atStart => exact ⟨0, Nat.zero_le _, rfl, rfl⟩
 case round =>
  obtain ⟨k, hk, rfl, rfl⟩ := hrel
  have hx := hsum_range (s.data.toList.take k)
  by_cases hlt : k < s.size
  · have HS : Hid (hsum (s.data.toList.take (k + 1)) = hstep (hsum (s.data.toList.take k)) s[k]) := by rw [take_snoc s k hlt]; exact hsum_snoc _ _
    go_wp2
    go_round
    case rel => exact ⟨k + 1, by omega, by go_num, by rw [HS.out]; rfl⟩
    case measure => simp [intOf]; omega
  · go_wp2
    go_ret
    exact ⟨ret_int (by rw [List.take_of_length_le (by simp; omega)]), rfl⟩
theorem conv1 (u : World) (y : Int) : (convert 175 9 (.slice (some ⟨u.heap.size, 0, none⟩) 1 1)).run Tryz.prog (u.alloc (.cells #[.int .u8 y] 5)) = .ok (.string (strOfNums [y])) (u.alloc (.cells #[.int .u8 y] 5)) :=
 run_convert_bytes_arg _ 175 5 Tryz.underlying175 Tryz.underlying5 _ 0 1 1 [y] rfl (fun i hi => by
  obtain rfl : i = 0 := by omega
  simp) 9 Tryz.underlying9
set_option maxHeartbeats 400000 in
theorem c74 (v : Int) (n : Nat) (w : World) (hv0 : 0 ≤ v) (hv1 : v ≤ 18446744073709551615) (hn : n ≤ 8) :
 Calls Tryz.prog 74 #[.int .u64 v, .int .i64 n] w fun e w' => e = .returned (.string (strOfNums (outs v n))) ∧ Below w.heap.size w w' := by
 have hcv := conv1
 have hz : ∀ y, (strOfNums [y]).size = 1 := fun y => strOfNums_size [y]
 go_enter Tryz.func74, Tryz.ntmps74
 go_wp2
 go_loopw [0, 5, 6] (fun a o i wr => ∃ k : Nat, k ≤ n ∧ i = .int .i64 k ∧ a = .int .u64 (vAt v k) ∧ o = .string (strOfNums (outs v k)) ∧ Below w.heap.size w wr) (fun _ _ i _ => n - (intOf i).toNat)
 case atStart => exact ⟨0, Nat.zero_le _, rfl, rfl, rfl, Below.refl _ _⟩
 case round =>
  obtain ⟨k, hk, rfl, rfl, rfl, hb⟩ := hrel
  have hx := vAt_range v hv0 hv1 k
  have hq : (strOfNums (outs v k)).size = k := by rw [strOfNums_size, outs_length]
  by_cases hlt : k < n
  · go_wp2
    go_roundw
    case rel => exact ⟨k + 1, by omega, by go_num, rfl, by rw [str_cons]; rfl, hb.alloc hb.size _⟩
    case measure => simp [intOf]; omega
  · go_wp2
    go_ret
    obtain rfl : k = n := by omega
    exact ⟨rfl, hb⟩
end Go.Proofs.YtboojefodbjbcaaGreatDoor
namespace Go.Proofs.YtboojefodbjbcaaGreatDoor
open Go.RowKit
set_option maxHeartbeats 400000 in
theorem c116 (s : ByteArray) (n : Nat) (w : World) (hn : n ≤ 8) (hs : s.size ≤ 1048700) :
 Calls Tryz.prog 116 #[.string s, .int .i64 n] w fun e w' => (∃ X, X = hsum s.data.toList ∧ e = .returned (.agg #[.int .u8 (kc X n 0), .int .u8 (kc X n 1), .int .u8 (kc X n 2), .int .u8 (kc X n 3), .int .u8 (kc X n 4), .int .u8 (kc X n 5), .int .u8 (kc X n 6), .int .u8 (kc X n 7)])) ∧ Below w.heap.size w w' := by
 go_enter Tryz.func116, Tryz.ntmps116
 go_wp2_with fail
 refine (c133 _ _ hs).mono ?_
 rintro e w' ⟨rfl, rfl⟩
 have hx := hsum_range s.data.toList
 generalize hX : hsum s.data.toList = X at *
 have HX : Hid (X = hsum s.data.toList) := hX.symm
 clear hX
 go_wp2_with fail
 go_loopw [6, 11] (fun a i wr => ∃ k : Nat, k ≤ n ∧ i = .int .i64 k ∧ a = .int .u64 (vAt X k) ∧ Below w.heap.size w wr ∧ w.heap.size + 2 ≤ wr.heap.size ∧ (∀ j, j < 8 → wr.cell? ⟨w.heap.size + 1, j, none⟩ = some (.int .u8 (kc X k j))) ∧ (∀ j, wr.frozen? ⟨w.heap.size + 1, j, none⟩ = false) ∧ (∀ j, j < 8 → wr.cell? ⟨w.heap.size, j, none⟩ = some (.int .u8 0)) ∧ (∀ j, wr.frozen? ⟨w.heap.size, j, none⟩ = false)) (fun _ i _ => n - (intOf i).toNat)
 case atStart =>
  refine ⟨0, Nat.zero_le _, rfl, rfl, ((Below.refl _ _).alloc (Nat.le_refl _) _).alloc (by simp) _, by simp, ?_, ?_, ?_, ?_⟩
  · intro j hj
    rw [kc_zero X j hj]
    rcases j with _ | _ | _ | _ | _ | _ | _ | _ | j <;> first | omega | simp
  · intro j; simp
  · intro j hj
    rcases j with _ | _ | _ | _ | _ | _ | _ | _ | j <;> first | omega | simp
  · intro j; simp
 case round =>
  obtain ⟨k, hk, rfl, rfl, hb, hz, h1, f1, h0, f0⟩ := hrel
  have hx := vAt_range X hx.1 hx.2 k
  by_cases hlt : k < n
  · have g1 := h1 (7 - k) (by omega)
    have g2 := f1 (7 - k)
    go_wp2
    go_roundw
    case rel =>
     refine ⟨k + 1, by omega, by go_num, rfl, hb.setCell (by simp) _, by simpa using hz, ?_, ?_, ?_, ?_⟩
     · intro j hj
       by_cases e : j = 7 - k
       · subst e
         rw [kc_same X k (by omega)]
         exact World.cell?_setCell_same _ _ _ g1
       · rw [kc_other X k j (by omega) hj e, ← h1 j hj]
         exact World.cell?_setCell_other _ _ _ _ (by intro h; injection h with h1 h2; exact e h2.symm)
     · intro j; rw [← f1 j]; simp
     · intro j hj; rw [← h0 j hj]; exact World.cell?_setCell_other _ _ _ _ (by simp)
     · intro j; rw [← f0 j]; simp
    case measure => simp [intOf]; omega
  · have a0 := h1 0 (by omega)
    have a1 := h1 1 (by omega)
    have a2 := h1 2 (by omega)
    have a3 := h1 3 (by omega)
    have a4 := h1 4 (by omega)
    have a5 := h1 5 (by omega)
    have a6 := h1 6 (by omega)
    have a7 := h1 7 (by omega)
    have b0 := h0 0 (by omega)
    have b1 := h0 1 (by omega)
    have b2 := h0 2 (by omega)
    have b3 := h0 3 (by omega)
    have b4 := h0 4 (by omega)
    have b5 := h0 5 (by omega)
    have b6 := h0 6 (by omega)
    have b7 := h0 7 (by omega)
    clear h1 h0
    go_wp2
    obtain rfl : k = n := by omega
    refine bodyPost_ret (v := .agg #[.int .u8 (kc X k 0), .int .u8 (kc X k 1), .int .u8 (kc X k 2), .int .u8 (kc X k 3), .int .u8 (kc X k 4), .int .u8 (kc X k 5), .int .u8 (kc X k 6), .int .u8 (kc X k 7)]) (by simp [results, Tryz.results116, go_sem, b0, b1, b2, b3, b4, b5, b6, b7]) rfl ⟨⟨X, HX.out, rfl⟩, ?_⟩
    have st : ∀ (u : World) (j : Nat) (x : Value), Below w.heap.size w u → Below w.heap.size w (u.setCell ⟨w.heap.size, j, none⟩ x) := fun u j x h => h.setCell (Nat.le_refl _) x
    iterate 8 refine st _ _ _ ?_
    exact hb
end Go.Proofs.YtboojefodbjbcaaGreatDoor
namespace Go.Proofs.YtboojefodbjbcaaGreatDoor
open Go.RowKit
def sumS (s : ByteArray) (n : Int) : ByteArray := if 1 ≤ n ∧ n ≤ 8 then strOfNums (outs (hsum s.data.toList) n.toNat) else ByteArray.empty
set_option maxHeartbeats 400000 in
theorem c67 (n l h : Int) (w : World) :
 Calls Tryz.prog 67 #[.int .i64 n, .int .i64 l, .int .i64 h] w fun e w' => e = .returned (.bool (decide (l ≤ n ∧ n ≤ h))) ∧ w' = w := by
 by_cases h1 : l ≤ n <;> by_cases h2 : n ≤ h
 all_goals
  go_enter Tryz.func67, Tryz.ntmps67
  go_wp2
  all_goals go_ret
  all_goals exact ⟨by simp [*], rfl⟩
set_option maxHeartbeats 400000 in
theorem c65 (n : Int) (w : World) :
 Calls Tryz.prog 65 #[.int .i64 n] w fun e w' => e = .returned (.bool (decide (1 ≤ n ∧ n ≤ 8))) ∧ w' = w := by
 go_enter Tryz.func65, Tryz.ntmps65
 go_wp2_with (go_at_call 67; refine (c67 _ _ _ _).mono ?_; rintro e w' ⟨rfl, rfl⟩)
 go_ret
 exact ⟨by simp, rfl⟩
set_option maxHeartbeats 400000 in
theorem c82 (n : Int) (w : World) :
 Calls Tryz.prog 82 #[.int .i64 n] w fun e w' => e = .returned (.bool (decide (1 ≤ n ∧ n ≤ 8))) ∧ w' = w := by
 by_cases h1 : 1 ≤ n <;> by_cases h2 : n ≤ 8
 all_goals
  go_enter Tryz.func82, Tryz.ntmps82
  go_wp2
  all_goals go_ret
  all_goals exact ⟨by simp [*], rfl⟩
set_option maxHeartbeats 400000 in
theorem c34 (s : ByteArray) (n : Int) (w : World) (hs : s.size ≤ 1048700) :
 Calls Tryz.prog 34 #[.string s, .int .i64 n] w fun e w' => e = .returned (.string (sumS s n)) ∧ Below w.heap.size w w' := by
 by_cases h : 1 ≤ n ∧ n ≤ 8
 · have hd : decide (1 ≤ n ∧ n ≤ 8) = true := by simpa using h
   have hx := hsum_range s.data.toList
   obtain ⟨k, rfl⟩ := Int.eq_ofNat_of_zero_le (show 0 ≤ n by omega)
   have hS : Hid (sumS s k = strOfNums (outs (hsum s.data.toList) k)) := by unfold sumS; rw [if_pos h]; rfl
   go_enter Tryz.func34, Tryz.ntmps34
   go_wp2_with fail
   refine (c65 _ _).mono ?_
   rintro e w' ⟨rfl, rfl⟩
   rw [hd]
   go_wp2_with fail
   refine (c75 _ _ hs).mono ?_
   rintro e w' ⟨rfl, rfl⟩
   go_wp2_with fail
   refine (c74 _ _ _ hx.1 hx.2 (by omega)).mono ?_
   rintro e w' ⟨rfl, hb⟩
   go_wp2
   go_ret
   exact ⟨by rw [hS.out]; rfl, hb⟩
 · have hd : decide (1 ≤ n ∧ n ≤ 8) = false := by simpa using h
   have hS : Hid (sumS s n = ByteArray.empty) := by unfold sumS; rw [if_neg h]; rfl
   go_enter Tryz.func34, Tryz.ntmps34
   go_wp2_with fail
   refine (c65 _ _).mono ?_
   rintro e w' ⟨rfl, rfl⟩
   rw [hd]
   go_wp2
   go_ret
   exact ⟨by rw [hS.out]; rfl, Below.refl _ _⟩
theorem sl50 (u : World) (b k : Nat) (h1 : 1 ≤ k) (h2 : k ≤ 8) :
 (Instr.sliceAt 196 (.pointer (some ⟨b, 0, none⟩)) (some (.int .i64 (8 - (k : Int)))) none none).run Tryz.prog u = .ok (.slice (some ⟨b, 8 - k, none⟩) k k) u := by
 obtain rfl | rfl | rfl | rfl | rfl | rfl | rfl | rfl : k = 1 ∨ k = 2 ∨ k = 3 ∨ k = 4 ∨ k = 5 ∨ k = 6 ∨ k = 7 ∨ k = 8 := by omega
 all_goals kernel_rfl
theorem cvKey (u : World) (X : Int) (k : Nat) (h2 : k ≤ 8) :
 (convert 175 9 (.slice (some ⟨u.heap.size, 8 - k, none⟩) k k)).run Tryz.prog (u.alloc (.cells #[.int .u8 (kc X k 0), .int .u8 (kc X k 1), .int .u8 (kc X k 2), .int .u8 (kc X k 3), .int .u8 (kc X k 4), .int .u8 (kc X k 5), .int .u8 (kc X k 6), .int .u8 (kc X k 7)] 196))
  = .ok (.string (strOfNums (outs X k))) (u.alloc (.cells #[.int .u8 (kc X k 0), .int .u8 (kc X k 1), .int .u8 (kc X k 2), .int .u8 (kc X k 3), .int .u8 (kc X k 4), .int .u8 (kc X k 5), .int .u8 (kc X k 6), .int .u8 (kc X k 7)] 196)) :=
 run_convert_bytes_arg _ 175 5 Tryz.underlying175 Tryz.underlying5 _ (8 - k) k k (outs X k) (outs_length X k) (fun i hi => by
  rw [← kc_outs X k i h2 hi]
  have hj : 8 - k + i < 8 := by omega
  generalize 8 - k + i = j at hj ⊢
  obtain rfl | rfl | rfl | rfl | rfl | rfl | rfl | rfl : j = 0 ∨ j = 1 ∨ j = 2 ∨ j = 3 ∨ j = 4 ∨ j = 5 ∨ j = 6 ∨ j = 7 := by omega
  all_goals simp) 9 Tryz.underlying9
set_option maxHeartbeats 400000 in
theorem c89 (s : ByteArray) (n : Int) (w : World) (hs : s.size ≤ 1048700) :
 Calls Tryz.prog 89 #[.string s, .int .i64 n] w fun e w' => e = .returned (.string (sumS s n)) ∧ Below w.heap.size w w' := by
 by_cases h : 1 ≤ n ∧ n ≤ 8
 · have hd : decide (1 ≤ n ∧ n ≤ 8) = true := by simpa using h
   have hx := hsum_range s.data.toList
   obtain ⟨k, rfl⟩ := Int.eq_ofNat_of_zero_le (show 0 ≤ n by omega)
   have hS : Hid (sumS s k = strOfNums (outs (hsum s.data.toList) k)) := by unfold sumS; rw [if_pos h]; rfl
   go_enter Tryz.func89, Tryz.ntmps89
   go_wp2_with fail
   refine (c82 _ _).mono ?_
   rintro e w' ⟨rfl, rfl⟩
   rw [hd]
   go_wp2_with fail
   refine (c116 _ _ _ (by omega) hs).mono ?_
   rintro e w' ⟨⟨X, hX, rfl⟩, hb⟩
   have HX : Hid (X = hsum s.data.toList) := hX
   clear hX
   have g1 := fun (u : World) (b : Nat) => sl50 u b k (by omega) (by omega)
   have g2 := fun (u : World) => cvKey u X k (by omega)
   go_wp2
   go_ret
   exact ⟨by rw [hS.out, ← HX.out]; rfl, hb.alloc hb.size _⟩
 · have hd : decide (1 ≤ n ∧ n ≤ 8) = false := by simpa using h
   have hS : Hid (sumS s n = ByteArray.empty) := by unfold sumS; rw [if_neg h]; rfl
   go_enter Tryz.func89, Tryz.ntmps89
   go_wp2_with fail
   refine (c82 _ _).mono ?_
   rintro e w' ⟨rfl, rfl⟩
   rw [hd]
   go_wp2
   go_ret
   exact ⟨by rw [hS.out]; rfl, Below.refl _ _⟩
end Go.Proofs.YtboojefodbjbcaaGreatDoor
