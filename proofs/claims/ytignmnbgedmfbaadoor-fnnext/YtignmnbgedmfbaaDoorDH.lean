import Derived.Test.YtignmnbgedmfbaaDoorDG
import Derived.Test.YtignmnbgedmfbaaDoorDE
import Derived.Test.YtignmnbgedmfbaaDoorN6
namespace Go.Proofs.YtignmnbgedmfbaaDoor
open Go.RowKit
def resCells (rs : List R2) : List Value := rs.flatMap fun x => [.int .i64 x.code, .string x.tx]
theorem resCells_len (rs : List R2) : (resCells rs).length = rs.length * 2 := by
  induction rs with
  | nil => rfl
  | cons x rs ih => rw [List.length_cons, Nat.succ_mul, ← ih]; rfl
theorem resCells_snoc (rs : List R2) (x : R2) : resCells (rs ++ [x]) = resCells rs ++ [.int .i64 x.code, .string x.tx] := by simp [resCells]
theorem resCells_get (rs : List R2) (i : Nat) (h : i < rs.length) : (resCells rs)[i * 2]? = some (.int .i64 (rs.getD i r2z).code) ∧ (resCells rs)[i * 2 + 1]? = some (.string (rs.getD i r2z).tx) := by
  induction rs generalizing i with
  | nil => simp at h
  | cons x rs ih =>
    cases i with
    | zero => exact ⟨rfl, rfl⟩
    | succ i =>
      obtain ⟨h1, h2⟩ := ih i (by simpa using h)
      have e : (i + 1) * 2 = i * 2 + 1 + 1 := by omega
      rw [e]
      exact ⟨h1, h2⟩
theorem res_row {w : World} {base g cp : Nat} {rs : List R2} (h : w.ownsRow base 42 2 (.slice (some ⟨g, 0, none⟩) rs.length cp) rs.length (resCells rs)) : ResAt w (some ⟨g, 0, none⟩) rs := by
  rcases Nat.eq_zero_or_pos rs.length with h0 | h0
  · exact .inl (List.length_eq_zero_iff.1 h0)
  · refine .inr ⟨g, 0, rfl, (h.lt g rfl).2, fun i hi => ?_⟩
    obtain ⟨h1, h2⟩ := resCells_get rs i hi
    rw [Nat.zero_add, h.cellAt (i * 2) (by omega), h.cellAt (i * 2 + 1) (by omega)]
    exact ⟨h1, h2⟩
def SmallR (rs : List R2) : Prop := ∀ i, (rs.getD i r2z).tx.size ≤ 4021
theorem smallR_snoc {rs : List R2} {x : R2} (h : SmallR rs) (hx : x.tx.size ≤ 4021) : SmallR (rs ++ [x]) := by
  intro j
  rcases Nat.lt_trichotomy j rs.length with hj | hj | hj
  · have : (rs ++ [x]).getD j r2z = rs.getD j r2z := by simp [List.getD, List.getElem?_append_left hj]
    rw [this]; exact h j
  · subst hj
    have : (rs ++ [x]).getD rs.length r2z = x := by simp [List.getD]
    rw [this]; exact hx
  · have : (rs ++ [x]).getD j r2z = r2z := by simp [List.getD, List.getElem?_eq_none (show (rs ++ [x]).length ≤ j by simp; omega)]
    rw [this]; exact Nat.zero_le _
theorem Kp.but {base q : Nat} {w u u' : World} (h : Kp base q w u) (hk : But q u u') (hz : base ≤ u.heap.size) : Kp base q w u' :=
  ⟨hk.os.trans h.os, hk.tape.trans h.tape, hk.output.trans h.output, Nat.le_trans h.size hk.size, fun k hb hne => (hk.block k (by omega) hne).trans (h.block k hb hne)⟩
theorem Kp.belowB {base q : Nat} {w u u' : World} (h : Kp base q w u) (hb : Below base u u') : Kp base q w u' := h.trans (Kp.of_base hb)
theorem strs6 (s4 s5 : ByteArray) (h4 : s4.size ≤ 4000) (h5 : s5.size ≤ 4000) (r : Int) (h0 : 0 ≤ r) (h6 : r < 6) : ∃ z : ByteArray, z.size ≤ 4000 ∧ (#[Value.string ⟨#[97]⟩, .string ⟨#[97, 10, 98]⟩, .string ⟨#[120, 49]⟩, .string ⟨#[]⟩, .string s4, .string s5] : Array Value)[r.toNat]? = some (.string z) := by
  obtain rfl | rfl | rfl | rfl | rfl | rfl : r = 0 ∨ r = 1 ∨ r = 2 ∨ r = 3 ∨ r = 4 ∨ r = 5 := by omega
  all_goals first
    | exact ⟨_, by decide, rfl⟩
    | exact ⟨_, h4, rfl⟩
    | exact ⟨_, h5, rfl⟩
def IsDraw (e : Ending) (w' : World) : Prop := ∃ (T : List I3) (a : Option Addr) (cap : Nat) (arg : ByteArray) (rs : List R2) (a2 : Option Addr) (cap2 : Nat), e = .returned (.tuple #[.agg #[.slice a T.length cap], .string arg, .slice a2 rs.length cap2]) ∧ InsAt w' a T ∧ ResAt w' a2 rs ∧ T.length ≤ 42 ∧ SmallT T ∧ arg.size ≤ 4000 ∧ rs.length ≤ 15 ∧ SmallR rs ∧ rs.length ≤ cap2
theorem row2g {w : World} {g : Nat} (hg : g = w.heap.size) (x y : Value) (t : TypeId) : ∀ j u, [x, y][j]? = some u → (w.alloc (.cells #[x, y] t)).cell? ((⟨g, 0, none⟩ : Addr).add j) = some u := by
  subst hg
  intro j u h
  match j, h with
  | 0, h => simp at h; subst h; simp [Addr.add]
  | 1, h => simp at h; subst h; simp [Addr.add]
theorem row_form2 {w : World} {B : Nat} {e : TypeId} {v : Value} {n : Nat} {xs : List Value} (h : w.ownsRow B e 2 v n xs) (hn : 0 < n) : ∃ g c, v = .slice (some ⟨g, 0, none⟩) n c := by
  rcases h.2 with ⟨_, h0⟩ | ⟨g, cap, cur, hv, _⟩
  · omega
  · exact ⟨g, cap, hv⟩
theorem strs4 (s3 : ByteArray) (h3 : s3.size ≤ 4000) (r : Int) (h0 : 0 ≤ r) (h4 : r < 4) : ∃ z : ByteArray, z.size ≤ 4000 ∧ (#[Value.string ⟨#[118, 49]⟩, .string ⟨#[97, 10, 98]⟩, .string ⟨#[98]⟩, .string s3] : Array Value)[r.toNat]? = some (.string z) := by
  obtain rfl | rfl | rfl | rfl : r = 0 ∨ r = 1 ∨ r = 2 ∨ r = 3 := by omega
  all_goals first
    | exact ⟨_, by decide, rfl⟩
    | exact ⟨_, h3, rfl⟩
theorem owns_cap {w : World} {base : Nat} {e : TypeId} {size n cp : Nat} {ao : Option Addr} {xs : List Value} (h : w.ownsRow base e size (.slice ao n cp) n xs) : n ≤ cp := by
  rcases h.2 with ⟨hv, h0⟩ | ⟨g, cap, cur, hv, _, _, hnc, _⟩
  · omega
  · injection hv with _ _ h3
    omega
theorem row_form2a {w : World} {B : Nat} {e : TypeId} {v : Value} {n : Nat} {xs : List Value} (h : w.ownsRow B e 2 v n xs) : ∃ ao c, v = .slice ao n c := by
  rcases h.2 with ⟨hv, h0⟩ | ⟨g, cap, cur, hv, _⟩
  · exact ⟨none, 0, by rw [hv, h0]⟩
  · exact ⟨_, _, hv⟩
def lenOf : Value → Nat | .slice _ n _ => n | _ => 0
theorem lenOf_owns2 {w : World} {base : Nat} {v : Value} {k : Nat} {xs : List Value} (h : w.ownsRow base 42 2 v k xs) : lenOf v = k := by
  obtain ⟨ao, c, rfl⟩ := row_form2a h
  rfl
theorem InsFrom.kp {B base q : Nat} {w w' : World} {a : Option Addr} {T : List I3} (h : InsFrom B w a T) (hk : Kp base q w w') (hz : w.heap.size ≤ base) (hq : q < B) : InsFrom B w' a T := by
  rcases h with h | ⟨b, off, h1, h0, h2, h3⟩
  · exact .inl h
  · refine .inr ⟨b, off, h1, h0, Nat.lt_of_lt_of_le h2 hk.size, fun i hi => ?_⟩
    rw [hk.cell (by show b < base; omega) (by show b ≠ q; omega), hk.cell (by show b < base; omega) (by show b ≠ q; omega), hk.cell (by show b < base; omega) (by show b ≠ q; omega)]
    exact h3 i hi
theorem res_rowA {w : World} {base cp : Nat} {ao : Option Addr} {rs : List R2} (h : w.ownsRow base 42 2 (.slice ao rs.length cp) rs.length (resCells rs)) : ResAt w ao rs := by
  rcases Nat.eq_zero_or_pos rs.length with h0 | h0
  · exact .inl (List.length_eq_zero_iff.1 h0)
  · obtain ⟨g, c, hv⟩ := row_form2 h h0
    injection hv with h1 _ h3
    subst h1
    exact res_row h
theorem resCells_set0 (rs : List R2) (x : R2) (h : 0 < rs.length) : ((resCells rs).set 0 (.int .i64 x.code)).set 1 (.string x.tx) = resCells (rs.set 0 x) := by
  cases rs with
  | nil => simp at h
  | cons y rs => rfl
theorem smallR_set {rs : List R2} {x : R2} (h : SmallR rs) (hx : x.tx.size ≤ 4021) : SmallR (rs.set 0 x) := by
  cases rs with
  | nil => exact h
  | cons y rs =>
    intro i
    cases i with
    | zero => exact hx
    | succ i => exact h (i + 1)
set_option maxHeartbeats 16000000 in
set_option maxRecDepth 100000 in
theorem c16 (a : Option Addr) (L cap : Nat) (w : World) (hL : L ≤ 1048576) (hcap : L ≤ cap) (h : BytesAt w a L) :
    Calls Tryd.prog 16 #[.slice a L cap] w fun e w' => IsDraw e w' ∧ Below w.heap.size w w' := by
  have hA0 : Below w.heap.size w (w.alloc (.cells #[.slice none 0 0] 29)) := (Below.refl _ _).alloc (Nat.le_refl _) _
  have hby : ∀ u, Below w.heap.size w u → BytesAt u a L := fun u hu => by
    rcases h with h | ⟨b, off, ha, hc⟩
    · exact .inl h
    · exact .inr ⟨b, off, ha, fun i hi => by
        obtain ⟨z, hz, hcz⟩ := hc i hi
        exact ⟨z, hz, by rw [hu.cell (cell_block hcz)]; exact hcz⟩⟩
  have HBY : Hid (∀ u, Below w.heap.size w u → BytesAt u a L) := hby
  clear h hby
  go_enter Tryd.func16, Tryd.ntmps16
  go_wp2_with fail
  refine (c44 a L cap (w.alloc (.cells #[.slice none 0 0] 29)) hL hcap (HBY.out _ hA0)).mono ?_
  rintro e w1 ⟨rfl, hr1, hb1, hs1⟩
  have hsz : (w.alloc (.cells #[.slice none 0 0] 29)).heap.size = w.heap.size + 1 := by simp
  rw [hsz] at hr1 hb1 hs1
  have H1 : Hid (RdTo w1 (w.heap.size + 1) 0) := ⟨0, Nat.le_refl _, hr1⟩
  have HR1 : Hid (w1.heap[w.heap.size]? = some (.cells #[.slice none 0 0] 29 (0, 0))) := (hb1.block _ (by omega)).trans (alloc_new rfl _)
  have HB1 : Hid (Below w.heap.size w w1) := hA0.trans (hb1.mono (by omega))
  clear hr1 hb1 hA0
  simp only [hsz]
  clear hsz
  go_wp2_with fail
  refine (c45 (w.heap.size + 1) 0 w1 (by omega) H1.out).mono ?_
  rintro e w2 ⟨⟨T0, a0, cap0, rfl, hT0, hl0, hs0⟩, h2, hb2⟩
  have hz2 : w1.heap.size ≤ w2.heap.size := hb2.size
  have hA2 : Below w2.heap.size w2 (w2.alloc (.cells #[.slice a0 T0.length cap0] 29)) := (Below.refl _ _).alloc (Nat.le_refl _) _
  have HT2 : Hid (InsFrom (w.heap.size + 2) (w2.alloc (.cells #[.slice a0 T0.length cap0] 29)) a0 T0) := (hT0.mono (by omega)).but (But.of_below (b := w.heap.size + 1) hA2) (by omega)
  have H2 : Hid (RdTo (w2.alloc (.cells #[.slice a0 T0.length cap0] 29)) (w.heap.size + 1) 60) := (RdTo.later h2 hA2).mono (by omega)
  have HX2 : Hid ((w2.alloc (.cells #[.slice a0 T0.length cap0] 29)).heap[w2.heap.size]? = some (.cells #[.slice a0 T0.length cap0] 29 (0, 0))) := alloc_new rfl _
  have HR2 : Hid ((w2.alloc (.cells #[.slice a0 T0.length cap0] 29)).heap[w.heap.size]? = some (.cells #[.slice none 0 0] 29 (0, 0))) := by
    rw [Hid, Below.heap_alloc _ _ _ (by omega), hb2.block _ (by omega) (by omega)]; exact HR1.out
  have HB2 : Hid (Below w.heap.size w (w2.alloc (.cells #[.slice a0 T0.length cap0] 29))) := (HB1.out.trans (hb2.below (by omega) (by omega))).alloc (by omega) _
  have hXb : w.heap.size + 2 ≤ w2.heap.size := by omega
  have hXlt : w2.heap.size < (w2.alloc (.cells #[.slice a0 T0.length cap0] 29)).heap.size := by simp
  have vx2 : (w2.alloc (.cells #[.slice a0 T0.length cap0] 29)).cell? ⟨w2.heap.size, 0, none⟩ = some (.slice a0 T0.length cap0) := by simp
  clear h2 hb2 hT0 H1 HR1 HB1 hA2 hz2 hs1
  go_wp2_with fail
  generalize (w2.alloc (.cells #[.slice a0 T0.length cap0] 29)) = W2 at *
  generalize w2.heap.size = X at *
  refine (pickT W2 (w.heap.size + 1) 60 16 (by omega) (by omega) (by omega) H2.out).mono ?_
  rintro e w3 ⟨⟨r3, rfl, r30, r316⟩, h3, ho3⟩
  have H3 : Hid (RdTo w3 (w.heap.size + 1) 61) := h3
  have HKW3 : Hid (But (w.heap.size + 1) W2 w3) := ho3.but
  have hz3 : W2.heap.size ≤ w3.heap.size := by rw [ho3.size]; exact Nat.le_refl _
  have HX3 : Hid (w3.heap[X]? = some (.cells #[.slice a0 T0.length cap0] 29 (0, 0))) := by rw [Hid, ho3.block _ (by omega)]; exact HX2.out
  have HR3 : Hid (w3.heap[w.heap.size]? = some (.cells #[.slice none 0 0] 29 (0, 0))) := by rw [Hid, ho3.block _ (by omega)]; exact HR2.out
  have HT3 : Hid (InsFrom (w.heap.size + 2) w3 a0 T0) := HT2.out.but ho3.but (by omega)
  have HB3 : Hid (Below w.heap.size w w3) := HB2.out.trans (ho3.below (by omega))
  have x3 : w3.cell? ⟨X, 0, none⟩ = some (.slice a0 T0.length cap0) := by rw [Lib.cell_of_heap HX3.out]; rfl
  clear h3 ho3 HT2 HX2 HR2 HB2 H2 HKW3
  by_cases hsp : r3 = 0
  · subst hsp
    go_wp2_with fail
    refine (c47 (w.heap.size + 1) 61 a0 cap0 T0 w3 (by omega) H3.out HT3.out.to hl0.1 hl0.2 hs0).mono ?_
    rintro e w4 ⟨⟨T, aT, capT, rfl, hT, hlT, hsT⟩, h4, hb4⟩
    have hz4 : w3.heap.size ≤ w4.heap.size := hb4.size
    have HX4 : Hid (w4.heap[X]? = some (.cells #[.slice a0 T0.length cap0] 29 (0, 0))) := by rw [Hid, hb4.block _ (by omega) (by omega)]; exact HX3.out
    have x4 : w4.cell? ⟨X, 0, none⟩ = some (.slice a0 T0.length cap0) := by rw [Lib.cell_of_heap HX4.out]; rfl
    have f4 : w4.frozen? ⟨X, 0, none⟩ = false := Lib.frozen_of_heap HX4.out 0
    have HXu : Hid ((w4.setCell ⟨X, 0, none⟩ (.slice aT T.length capT)).heap[X]? = some (.cells #[.slice aT T.length capT] 29 (0, 0))) := heap_setCell_same w4 X 0 _ 29 _ HX4.out
    have HRu : Hid ((w4.setCell ⟨X, 0, none⟩ (.slice aT T.length capT)).heap[w.heap.size]? = some (.cells #[.slice none 0 0] 29 (0, 0))) := by rw [Hid, heap_setCell_other _ ⟨X, 0, none⟩ _ _ (by show w.heap.size ≠ X; omega), hb4.block _ (by omega) (by omega)]; exact HR3.out
    have HTu : Hid (InsFrom (w.heap.size + 2) (w4.setCell ⟨X, 0, none⟩ (.slice aT T.length capT)) aT T) := (hT.set (by omega)).mono (by omega)
    have HDu : Hid (RdTo (w4.setCell ⟨X, 0, none⟩ (.slice aT T.length capT)) (w.heap.size + 1) 121) := rd_set1 h4 (by omega) _ _
    have HBu : Hid (Below w.heap.size w (w4.setCell ⟨X, 0, none⟩ (.slice aT T.length capT))) := (HB3.out.trans (hb4.below (by omega) (by omega))).setCell (by show w.heap.size ≤ X; omega) _
    have hzu : X < (w4.setCell ⟨X, 0, none⟩ (.slice aT T.length capT)).heap.size := by simp; omega
    have HsT : Hid (SmallT T) := hsT
    clear h4 hb4 hT HX4 HX3 HR3 HT3 HB3 H3 x3 hsT hs0
    go_wp2_with fail
    generalize (w4.setCell ⟨X, 0, none⟩ (.slice aT T.length capT)) = u at *
    go_wp2_with fail
    refine (c48 (w.heap.size + 1) 121 u (by omega) HDu.out).mono ?_
    rintro e w5 ⟨⟨s5, rfl, hs5⟩, h5, hb5⟩
    have H5 : Hid (RdTo w5 (w.heap.size + 1) 123) := h5
    have HK5 : Hid (But (w.heap.size + 1) u w5) := hb5
    clear h5 hb5
    go_wp2_with fail
    refine (pickT w5 (w.heap.size + 1) 123 2 (by omega) (by omega) (by omega) H5.out).mono ?_
    rintro e w6 ⟨⟨r6, rfl, r60, r62⟩, h6, ho6⟩
    have H6 : Hid (RdTo w6 (w.heap.size + 1) 124) := h6
    have HK6 : Hid (But (w.heap.size + 1) u w6) := HK5.out.trans ho6.but
    obtain ⟨n6, rfl⟩ := Int.eq_ofNat_of_zero_le r60
    clear h6 ho6 H5 HK5
    go_wp2_with fail
    refine (pickT w6 (w.heap.size + 1) 124 2 (by omega) (by omega) (by omega) H6.out).mono ?_
    rintro e w7 ⟨⟨r7, rfl, r70, r72⟩, h7, ho7⟩
    have H7 : Hid (RdTo w7 (w.heap.size + 1) 125) := h7
    have HK7 : Hid (But (w.heap.size + 1) u w7) := HK6.out.trans ho7.but
    obtain ⟨n7, rfl⟩ := Int.eq_ofNat_of_zero_le r70
    have hm0 : (0 : Int) ≤ (n6 : Int) * (n7 : Int) := Int.mul_nonneg r60 r70
    have hmn : n6 * n7 ≤ 1 := Nat.mul_le_mul (show n6 ≤ 1 by omega) (show n7 ≤ 1 by omega)
    have hm1 : (n6 : Int) * (n7 : Int) ≤ 1 := by exact_mod_cast hmn
    clear h7 ho7 H6 HK6
    go_wp2_with fail
    refine (c49 ⟨#[103]⟩ (300 + n6 * n7) w7 (by decide) (by omega)).mono ?_
    rintro e wz ⟨⟨s8, rfl, hs8⟩, hwz⟩
    obtain rfl := hwz.symm
    have hA7 : Below w7.heap.size w7 (w7.alloc (.cells #[.string ⟨#[97]⟩, .string ⟨#[97, 10, 98]⟩, .string ⟨#[120, 49]⟩, .string ⟨#[]⟩, .string s5, .string s8] 9)) := (Below.refl _ _).alloc (Nat.le_refl _) _
    have hq7 : (w.heap.size + 1) < w7.heap.size := H7.out.lt
    go_wp2_with fail
    refine (pickT (w7.alloc (.cells #[.string ⟨#[97]⟩, .string ⟨#[97, 10, 98]⟩, .string ⟨#[120, 49]⟩, .string ⟨#[]⟩, .string s5, .string s8] 9)) (w.heap.size + 1) 125 6 (by omega) (by omega) (by omega) (H7.out.later hA7)).mono ?_
    rintro e w9 ⟨⟨r9, rfl, r90, r96⟩, h9, ho9⟩
    obtain ⟨z9, hz9, hc9⟩ := strs6 s5 s8 (by omega) hs8 r9 r90 r96
    have k9 : w9.cell? ⟨w7.heap.size, r9.toNat, none⟩ = some (.string z9) := by rw [ho9.cell (by show w7.heap.size ≠ (w.heap.size + 1); omega), ← hc9]; simp
    have HK9 : Hid (But (w.heap.size + 1) u w9) := (HK7.out.later hA7).trans ho9.but
    have hA9 : Below w9.heap.size w9 (w9.alloc (.cells #[] 42)) := (Below.refl _ _).alloc (Nat.le_refl _) _
    have H9 : Hid (RdTo (w9.alloc (.cells #[] 42)) (w.heap.size + 1) 126) := RdTo.later h9 hA9
    have hq9 : (w.heap.size + 1) < w9.heap.size := RdTo.lt h9
    have hz9u : u.heap.size ≤ w9.heap.size := HK9.out.size
    clear h9 ho9 H7 HK7 hA7 hc9
    go_wp2_with fail
    refine (pickT (w9.alloc (.cells #[] 42)) (w.heap.size + 1) 126 6 (by omega) (by omega) (by omega) H9.out).mono ?_
    rintro e wA ⟨⟨rA, rfl, rA0, rA6⟩, hA, hoA⟩
    obtain ⟨nA, rfl⟩ := Int.eq_ofNat_of_zero_le rA0
    have HA : Hid (RdTo wA (w.heap.size + 1) 127) := hA
    have HownA : Hid (wA.ownsRow w9.heap.size 42 2 (.slice (some ⟨w9.heap.size, 0, none⟩) 0 0) 0 (resCells [])) := hoA.owns (World.ownsRow_lit (base := w9.heap.size) (e := 42) (size := 2) w9 #[] 0 (Nat.le_refl _) (Nat.zero_le _) rfl) (by omega)
    have HKA : Hid (Kp w9.heap.size (w.heap.size + 1) w9 wA) := ⟨hoA.os.trans hA9.os, hoA.tape.trans hA9.tape, hoA.output.trans hA9.output, by rw [hoA.size]; simp, fun k hk hne => by rw [hoA.block k hne, Below.heap_alloc _ _ _ hk]⟩
    clear hA hoA hA9 H9
    obtain ⟨j0, hi, hz0, hz1, hz2⟩ := info_parts info42
    have hbase : w.heap.size + 2 ≤ w9.heap.size := by omega
    go_wp2_with fail
    go_loopw [8, 9] (fun v i wr => ∃ (k : Nat) (rs : List R2), i = .int .i64 k ∧ k + rs.length ≤ 5 ∧ Hid (SmallR rs) ∧ wr.ownsRow w9.heap.size 42 2 v rs.length (resCells rs) ∧ Hid (RdTo wr (w.heap.size + 1) (127 + 10 * rs.length)) ∧ Hid (Kp w9.heap.size (w.heap.size + 1) w9 wr)) (fun _ i _ => (intOf i).toNat)
    case atStart => exact ⟨nA, [], rfl, by simp; omega, fun i => by simp [r2z, ByteArray.size], HownA.out, HA, HKA⟩
    case round =>
      clear HownA HA HKA
      obtain ⟨k, rs, rfl, hk, hsm, hown, hrd, hkp⟩ := hrel
      have hzr : w9.heap.size ≤ wr.heap.size := hkp.out.size
      by_cases hk0 : k = 0
      · subst hk0
        go_wp2_with fail
        refine (pickT wr (w.heap.size + 1) (127 + 10 * rs.length) 12 (by omega) (by omega) (by omega) hrd.out).mono ?_
        rintro e wB ⟨⟨rB, rfl, rB0, rB12⟩, hB', hoB⟩
        have HRB : Hid (RdTo wB (w.heap.size + 1) (127 + 10 * rs.length + 1)) := hB'
        have HOB : Hid (wB.ownsRow w9.heap.size 42 2 u8 rs.length (resCells rs)) := own_but hown hoB.but (by omega)
        have HKB : Hid (Kp w9.heap.size (w.heap.size + 1) w9 wB) := hkp.out.but hoB.but hzr
        have hzB : w9.heap.size ≤ wB.heap.size := HKB.out.size
        clear hB' hoB hown hrd hkp
        by_cases hrB : rB = 0
        · subst hrB
          go_wp2_with fail
          refine (pickT wB (w.heap.size + 1) (127 + 10 * rs.length + 1) 3 (by omega) (by omega) (by omega) HRB.out).mono ?_
          rintro e wC ⟨⟨rC, rfl, rC0, rC3⟩, hC, hoC⟩
          have HRC : Hid (RdTo wC (w.heap.size + 1) (127 + 10 * rs.length + 2)) := hC
          have HOC : Hid (wC.ownsRow w9.heap.size 42 2 u8 rs.length (resCells rs)) := own_but HOB.out hoC.but (by omega)
          have HKC : Hid (Kp w9.heap.size (w.heap.size + 1) w9 wC) := HKB.out.but hoC.but hzB
          clear hC hoC HOB HKB HRB
          go_wp2_with fail
          go_loopw [8] (fun v wx => ∃ (rs : List R2), rs.length ≤ 15 ∧ Hid (SmallR rs) ∧ wx.ownsRow w9.heap.size 42 2 v rs.length (resCells rs) ∧ Hid (RdTo wx (w.heap.size + 1) 300) ∧ Hid (Kp w9.heap.size (w.heap.size + 1) w9 wx)) (fun v _ => 15 - lenOf v)
          case atStart => exact ⟨rs, by omega, hsm, HOC.out, HRC.out.mono (by omega), HKC⟩
          case round =>
            clear HRC HOC HKC hsm hk
            obtain ⟨rs, hrl, hsm, hownx, hrdx, hkpx⟩ := hrel
            have hzx : w9.heap.size ≤ wr.heap.size := hkpx.out.size
            have hM0 := lenOf_owns2 hownx
            obtain ⟨ao, co, hvo⟩ := row_form2a hownx
            subst hvo
            by_cases hgo : (rs.length : Int) < 15 - rC
            · go_wp2_with (at_builtin; refine wpList_append_own _ rfl _ _ 38 rfl w9.heap.size 42 j0 (.agg #[.int .i64 0, .string ⟨#[]⟩]) 2 24 Tryd.underlying38 hi hz0 hz1 hz2 rfl (by decide) _ _ _ rfl (hownx.alloc _) ⟨wr.heap.size, 0, none⟩ 1 1 [_, _] rfl rfl (row2g (by simp) _ _ _) (by intro u hu; simp at hu; rcases hu with rfl | rfl <;> rfl) (by unfold maxLen; omega) (by omega) (by simp; omega) ?_; intro v' wF hownF hgrow _; have HBL : Hid (Below w9.heap.size wr wF) := ((Below.refl _ _).alloc hzx _).grown hgrow (by simp; omega) (fun k hk => (hownx.lt k hk).1); clear hgrow)
              go_roundw
              case rel =>
                refine ⟨rs ++ [⟨0, ⟨#[98]⟩⟩], by simp; omega, smallR_snoc hsm.out (by show (⟨#[98]⟩ : ByteArray).size ≤ 4021; decide), ?_, hrdx.out.laterB HBL.out (by omega), hkpx.out.belowB HBL.out⟩
                rw [resCells_snoc, List.length_append]; exact hownF
              case measure =>
                have := lenOf_owns2 hownF
                simp only [lenOf] at *
                omega
            · have hrs0 : ¬ rs.length = 0 := by omega
              have hrp : (0 : Int) < (rs.length : Int) := by omega
              obtain ⟨g9, c9, hv9⟩ := row_form2 (hownx) (by omega)
              have hAO : ao = some ⟨g9, 0, none⟩ := by injection hv9
              have hown9 : wr.ownsRow w9.heap.size 42 2 (.slice (some ⟨g9, 0, none⟩) rs.length co) rs.length (resCells rs) := by rw [← hAO]; exact hownx
              subst hAO
              clear hv9
              go_wp2_with fail
              refine (pickT wr (w.heap.size + 1) (300) 16 (by omega) (by omega) (by omega) (hrdx.out)).mono ?_
              rintro e wP ⟨⟨rP, rfl, rP0, rP16⟩, hP, hoP⟩
              have HOP : Hid (wP.ownsRow w9.heap.size 42 2 (.slice (some ⟨g9, 0, none⟩) rs.length co) rs.length (resCells rs)) := own_but hown9 hoP.but (by omega)
              have HKP : Hid (Kp w9.heap.size (w.heap.size + 1) w9 wP) := (hkpx.out).but hoP.but (by omega)
              have hzP : w9.heap.size ≤ wP.heap.size := HKP.out.size
              clear hP hoP hown9
              by_cases hrP : rP = 0
              · subst hrP
                have HBP : Hid (Below w.heap.size w wP) := (HBu.out.trans (HK9.out.below (by omega) (by omega))).trans (HKP.out.below (by omega) (by omega))
                go_wp2_with fail
                refine (c51 a L cap wP hL hcap (HBY.out _ HBP.out)).mono ?_
                rintro e wQ ⟨⟨xQ, rfl, hxQ⟩, hbQ⟩
                obtain ⟨qc, qt⟩ := xQ
                simp only at hxQ
                have HOQ : Hid (wQ.ownsRow w9.heap.size 42 2 (.slice (some ⟨g9, 0, none⟩) rs.length co) rs.length (resCells rs)) := ownsRow_below HOP.out hbQ
                have HKQ : Hid (Kp w9.heap.size (w.heap.size + 1) w9 wQ) := HKP.out.belowB (hbQ.mono hzP)
                obtain ⟨rg0, rg1⟩ := resCells_get rs 0 (by omega)
                have g0c := (HOQ.out.cellAt 0 (by omega)).trans rg0
                have g1c := (HOQ.out.cellAt 1 (by omega)).trans rg1
                have g0f := HOQ.out.frozenAt 0
                have g1f := HOQ.out.frozenAt 1
                have hg9 := HOQ.out.lt g9 rfl
                have hng1 : ¬ X = g9 := by omega
                have hng2 : ¬ g9 = X := by omega
                have hng3 : ¬ w.heap.size = g9 := by omega
                have hng4 : ¬ g9 = w.heap.size := by omega
                clear hbQ rg0 rg1
                have HOf : Hid (((wQ.setCell ⟨g9, 0, none⟩ (.int .i64 qc)).setCell ⟨g9, 1, none⟩ (.string qt)).ownsRow w9.heap.size 42 2 (.slice (some ⟨g9, 0, none⟩) (rs.set 0 ⟨qc, qt⟩).length co) (rs.set 0 ⟨qc, qt⟩).length (resCells (rs.set 0 ⟨qc, qt⟩))) := by have h := ((HOQ.out.stored 0 (.int .i64 qc)).1.stored 1 (.string qt)).1; rw [resCells_set0 rs ⟨qc, qt⟩ (by omega)] at h; rw [List.length_set]; exact h
                have HKf : Hid (Kp w9.heap.size (w.heap.size + 1) w9 ((wQ.setCell ⟨g9, 0, none⟩ (.int .i64 qc)).setCell ⟨g9, 1, none⟩ (.string qt))) := HKQ.out.belowB (((Below.refl w9.heap.size _).setCell (by exact hg9.1) _).setCell (by exact hg9.1) _)
                have hXf : ((wQ.setCell ⟨g9, 0, none⟩ (.int .i64 qc)).setCell ⟨g9, 1, none⟩ (.string qt)).heap[X]? = some (.cells #[.slice aT T.length capT] 29 (0, 0)) := by rw [HKf.out.block X (by omega) (by omega), HK9.out.block X hzu (by omega)]; exact HXu.out
                have hRf : ((wQ.setCell ⟨g9, 0, none⟩ (.int .i64 qc)).setCell ⟨g9, 1, none⟩ (.string qt)).heap[w.heap.size]? = some (.cells #[.slice none 0 0] 29 (0, 0)) := by rw [HKf.out.block w.heap.size (by omega) (by omega), HK9.out.block w.heap.size (by omega) (by omega)]; exact HRu.out
                have cXf : ((wQ.setCell ⟨g9, 0, none⟩ (.int .i64 qc)).setCell ⟨g9, 1, none⟩ (.string qt)).cell? ⟨X, 0, none⟩ = some (.slice aT T.length capT) := by rw [Lib.cell_of_heap hXf]; rfl
                have cRf : ((wQ.setCell ⟨g9, 0, none⟩ (.int .i64 qc)).setCell ⟨g9, 1, none⟩ (.string qt)).cell? ⟨w.heap.size, 0, none⟩ = some (.slice none 0 0) := by rw [Lib.cell_of_heap hRf]; rfl
                have fRf : ((wQ.setCell ⟨g9, 0, none⟩ (.int .i64 qc)).setCell ⟨g9, 1, none⟩ (.string qt)).frozen? ⟨w.heap.size, 0, none⟩ = false := Lib.frozen_of_heap hRf 0
                have HTf : Hid (InsFrom (w.heap.size + 2) ((wQ.setCell ⟨g9, 0, none⟩ (.int .i64 qc)).setCell ⟨g9, 1, none⟩ (.string qt)) aT T) := (HTu.out.but HK9.out (by omega)).kp HKf.out (Nat.le_refl _) (by omega)
                have HBf : Hid (Below w.heap.size w ((wQ.setCell ⟨g9, 0, none⟩ (.int .i64 qc)).setCell ⟨g9, 1, none⟩ (.string qt))) := (HBu.out.trans (HK9.out.below (by omega) (by omega))).trans (HKf.out.below (by omega) (by omega))
                clear hXf hRf
                go_wp2
                have er := World.cell?_setCell_same ((wQ.setCell ⟨g9, 0, none⟩ (.int .i64 qc)).setCell ⟨g9, 1, none⟩ (.string qt)) ⟨w.heap.size, 0, none⟩ (.slice aT T.length capT) cRf
                refine bodyPost_ret (v := .tuple #[.agg #[.slice aT T.length capT], .string z9, .slice (some ⟨g9, 0, none⟩) (rs.set 0 ⟨qc, qt⟩).length co]) (by simp [results, Tryd.results16, go_sem, er]) rfl ⟨⟨T, aT, capT, z9, rs.set 0 ⟨qc, qt⟩, (some ⟨g9, 0, none⟩), co, rfl, (HTf.out.set (by omega)).to, res_rowA (own_setNe HOf.out (fun e => by have := (HOf.out.lt _ e).1; omega)), by omega, HsT.out, hz9, by rw [List.length_set]; omega, smallR_set (hsm.out) hxQ, owns_cap HOf.out⟩, HBf.out.setCell (by simp) _⟩
              have hrPf : (rP == 0) = false := by simpa using hrP
              have HOf : Hid (wP.ownsRow w9.heap.size 42 2 (.slice (some ⟨g9, 0, none⟩) (rs).length co) (rs).length (resCells (rs))) := HOP.out
              have HKf : Hid (Kp w9.heap.size (w.heap.size + 1) w9 wP) := HKP.out
              have hXf : wP.heap[X]? = some (.cells #[.slice aT T.length capT] 29 (0, 0)) := by rw [HKf.out.block X (by omega) (by omega), HK9.out.block X hzu (by omega)]; exact HXu.out
              have hRf : wP.heap[w.heap.size]? = some (.cells #[.slice none 0 0] 29 (0, 0)) := by rw [HKf.out.block w.heap.size (by omega) (by omega), HK9.out.block w.heap.size (by omega) (by omega)]; exact HRu.out
              have cXf : wP.cell? ⟨X, 0, none⟩ = some (.slice aT T.length capT) := by rw [Lib.cell_of_heap hXf]; rfl
              have cRf : wP.cell? ⟨w.heap.size, 0, none⟩ = some (.slice none 0 0) := by rw [Lib.cell_of_heap hRf]; rfl
              have fRf : wP.frozen? ⟨w.heap.size, 0, none⟩ = false := Lib.frozen_of_heap hRf 0
              have HTf : Hid (InsFrom (w.heap.size + 2) wP aT T) := (HTu.out.but HK9.out (by omega)).kp HKf.out (Nat.le_refl _) (by omega)
              have HBf : Hid (Below w.heap.size w wP) := (HBu.out.trans (HK9.out.below (by omega) (by omega))).trans (HKf.out.below (by omega) (by omega))
              clear hXf hRf
              go_wp2
              have er := World.cell?_setCell_same wP ⟨w.heap.size, 0, none⟩ (.slice aT T.length capT) cRf
              refine bodyPost_ret (v := .tuple #[.agg #[.slice aT T.length capT], .string z9, .slice (some ⟨g9, 0, none⟩) (rs).length co]) (by simp [results, Tryd.results16, go_sem, er]) rfl ⟨⟨T, aT, capT, z9, rs, (some ⟨g9, 0, none⟩), co, rfl, (HTf.out.set (by omega)).to, res_rowA (own_setNe HOf.out (fun e => by have := (HOf.out.lt _ e).1; omega)), by omega, HsT.out, hz9, by omega, hsm.out, owns_cap HOf.out⟩, HBf.out.setCell (by simp) _⟩
        · have hrBf : (rB == 0) = false := by simpa using hrB
          obtain ⟨ao, co, hvo⟩ := row_form2a HOB.out
          subst hvo
          by_cases hrs0 : rs.length = 0
          · obtain rfl : rs = [] := List.length_eq_zero_iff.1 hrs0
            clear hrs0
            have HOf : Hid (wB.ownsRow w9.heap.size 42 2 (.slice ao (([] : List R2)).length co) (([] : List R2)).length (resCells (([] : List R2)))) := HOB.out
            have HKf : Hid (Kp w9.heap.size (w.heap.size + 1) w9 wB) := HKB.out
            have hXf : wB.heap[X]? = some (.cells #[.slice aT T.length capT] 29 (0, 0)) := by rw [HKf.out.block X (by omega) (by omega), HK9.out.block X hzu (by omega)]; exact HXu.out
            have hRf : wB.heap[w.heap.size]? = some (.cells #[.slice none 0 0] 29 (0, 0)) := by rw [HKf.out.block w.heap.size (by omega) (by omega), HK9.out.block w.heap.size (by omega) (by omega)]; exact HRu.out
            have cXf : wB.cell? ⟨X, 0, none⟩ = some (.slice aT T.length capT) := by rw [Lib.cell_of_heap hXf]; rfl
            have cRf : wB.cell? ⟨w.heap.size, 0, none⟩ = some (.slice none 0 0) := by rw [Lib.cell_of_heap hRf]; rfl
            have fRf : wB.frozen? ⟨w.heap.size, 0, none⟩ = false := Lib.frozen_of_heap hRf 0
            have HTf : Hid (InsFrom (w.heap.size + 2) wB aT T) := (HTu.out.but HK9.out (by omega)).kp HKf.out (Nat.le_refl _) (by omega)
            have HBf : Hid (Below w.heap.size w wB) := (HBu.out.trans (HK9.out.below (by omega) (by omega))).trans (HKf.out.below (by omega) (by omega))
            clear hXf hRf
            go_wp2
            have er := World.cell?_setCell_same wB ⟨w.heap.size, 0, none⟩ (.slice aT T.length capT) cRf
            refine bodyPost_ret (v := .tuple #[.agg #[.slice aT T.length capT], .string z9, .slice ao (([] : List R2)).length co]) (by simp [results, Tryd.results16, go_sem, er]) rfl ⟨⟨T, aT, capT, z9, ([] : List R2), ao, co, rfl, (HTf.out.set (by omega)).to, res_rowA (own_setNe HOf.out (fun e => by have := (HOf.out.lt _ e).1; omega)), by omega, HsT.out, hz9, by simp, hsm.out, owns_cap HOf.out⟩, HBf.out.setCell (by simp) _⟩
          have hrp : (0 : Int) < (rs.length : Int) := by omega
          obtain ⟨g9, c9, hv9⟩ := row_form2 (HOB.out) (by omega)
          have hAO : ao = some ⟨g9, 0, none⟩ := by injection hv9
          have hown9 : wB.ownsRow w9.heap.size 42 2 (.slice (some ⟨g9, 0, none⟩) rs.length co) rs.length (resCells rs) := by rw [← hAO]; exact HOB.out
          subst hAO
          clear hv9
          go_wp2_with fail
          refine (pickT wB (w.heap.size + 1) (127 + 10 * rs.length + 1) 16 (by omega) (by omega) (by omega) (HRB.out)).mono ?_
          rintro e wP ⟨⟨rP, rfl, rP0, rP16⟩, hP, hoP⟩
          have HOP : Hid (wP.ownsRow w9.heap.size 42 2 (.slice (some ⟨g9, 0, none⟩) rs.length co) rs.length (resCells rs)) := own_but hown9 hoP.but (by omega)
          have HKP : Hid (Kp w9.heap.size (w.heap.size + 1) w9 wP) := (HKB.out).but hoP.but (by omega)
          have hzP : w9.heap.size ≤ wP.heap.size := HKP.out.size
          clear hP hoP hown9
          by_cases hrP : rP = 0
          · subst hrP
            have HBP : Hid (Below w.heap.size w wP) := (HBu.out.trans (HK9.out.below (by omega) (by omega))).trans (HKP.out.below (by omega) (by omega))
            go_wp2_with fail
            refine (c51 a L cap wP hL hcap (HBY.out _ HBP.out)).mono ?_
            rintro e wQ ⟨⟨xQ, rfl, hxQ⟩, hbQ⟩
            obtain ⟨qc, qt⟩ := xQ
            simp only at hxQ
            have HOQ : Hid (wQ.ownsRow w9.heap.size 42 2 (.slice (some ⟨g9, 0, none⟩) rs.length co) rs.length (resCells rs)) := ownsRow_below HOP.out hbQ
            have HKQ : Hid (Kp w9.heap.size (w.heap.size + 1) w9 wQ) := HKP.out.belowB (hbQ.mono hzP)
            obtain ⟨rg0, rg1⟩ := resCells_get rs 0 (by omega)
            have g0c := (HOQ.out.cellAt 0 (by omega)).trans rg0
            have g1c := (HOQ.out.cellAt 1 (by omega)).trans rg1
            have g0f := HOQ.out.frozenAt 0
            have g1f := HOQ.out.frozenAt 1
            have hg9 := HOQ.out.lt g9 rfl
            have hng1 : ¬ X = g9 := by omega
            have hng2 : ¬ g9 = X := by omega
            have hng3 : ¬ w.heap.size = g9 := by omega
            have hng4 : ¬ g9 = w.heap.size := by omega
            clear hbQ rg0 rg1
            have HOf : Hid (((wQ.setCell ⟨g9, 0, none⟩ (.int .i64 qc)).setCell ⟨g9, 1, none⟩ (.string qt)).ownsRow w9.heap.size 42 2 (.slice (some ⟨g9, 0, none⟩) (rs.set 0 ⟨qc, qt⟩).length co) (rs.set 0 ⟨qc, qt⟩).length (resCells (rs.set 0 ⟨qc, qt⟩))) := by have h := ((HOQ.out.stored 0 (.int .i64 qc)).1.stored 1 (.string qt)).1; rw [resCells_set0 rs ⟨qc, qt⟩ (by omega)] at h; rw [List.length_set]; exact h
            have HKf : Hid (Kp w9.heap.size (w.heap.size + 1) w9 ((wQ.setCell ⟨g9, 0, none⟩ (.int .i64 qc)).setCell ⟨g9, 1, none⟩ (.string qt))) := HKQ.out.belowB (((Below.refl w9.heap.size _).setCell (by exact hg9.1) _).setCell (by exact hg9.1) _)
            have hXf : ((wQ.setCell ⟨g9, 0, none⟩ (.int .i64 qc)).setCell ⟨g9, 1, none⟩ (.string qt)).heap[X]? = some (.cells #[.slice aT T.length capT] 29 (0, 0)) := by rw [HKf.out.block X (by omega) (by omega), HK9.out.block X hzu (by omega)]; exact HXu.out
            have hRf : ((wQ.setCell ⟨g9, 0, none⟩ (.int .i64 qc)).setCell ⟨g9, 1, none⟩ (.string qt)).heap[w.heap.size]? = some (.cells #[.slice none 0 0] 29 (0, 0)) := by rw [HKf.out.block w.heap.size (by omega) (by omega), HK9.out.block w.heap.size (by omega) (by omega)]; exact HRu.out
            have cXf : ((wQ.setCell ⟨g9, 0, none⟩ (.int .i64 qc)).setCell ⟨g9, 1, none⟩ (.string qt)).cell? ⟨X, 0, none⟩ = some (.slice aT T.length capT) := by rw [Lib.cell_of_heap hXf]; rfl
            have cRf : ((wQ.setCell ⟨g9, 0, none⟩ (.int .i64 qc)).setCell ⟨g9, 1, none⟩ (.string qt)).cell? ⟨w.heap.size, 0, none⟩ = some (.slice none 0 0) := by rw [Lib.cell_of_heap hRf]; rfl
            have fRf : ((wQ.setCell ⟨g9, 0, none⟩ (.int .i64 qc)).setCell ⟨g9, 1, none⟩ (.string qt)).frozen? ⟨w.heap.size, 0, none⟩ = false := Lib.frozen_of_heap hRf 0
            have HTf : Hid (InsFrom (w.heap.size + 2) ((wQ.setCell ⟨g9, 0, none⟩ (.int .i64 qc)).setCell ⟨g9, 1, none⟩ (.string qt)) aT T) := (HTu.out.but HK9.out (by omega)).kp HKf.out (Nat.le_refl _) (by omega)
            have HBf : Hid (Below w.heap.size w ((wQ.setCell ⟨g9, 0, none⟩ (.int .i64 qc)).setCell ⟨g9, 1, none⟩ (.string qt))) := (HBu.out.trans (HK9.out.below (by omega) (by omega))).trans (HKf.out.below (by omega) (by omega))
            clear hXf hRf
            go_wp2
            have er := World.cell?_setCell_same ((wQ.setCell ⟨g9, 0, none⟩ (.int .i64 qc)).setCell ⟨g9, 1, none⟩ (.string qt)) ⟨w.heap.size, 0, none⟩ (.slice aT T.length capT) cRf
            refine bodyPost_ret (v := .tuple #[.agg #[.slice aT T.length capT], .string z9, .slice (some ⟨g9, 0, none⟩) (rs.set 0 ⟨qc, qt⟩).length co]) (by simp [results, Tryd.results16, go_sem, er]) rfl ⟨⟨T, aT, capT, z9, rs.set 0 ⟨qc, qt⟩, (some ⟨g9, 0, none⟩), co, rfl, (HTf.out.set (by omega)).to, res_rowA (own_setNe HOf.out (fun e => by have := (HOf.out.lt _ e).1; omega)), by omega, HsT.out, hz9, by rw [List.length_set]; omega, smallR_set (hsm.out) hxQ, owns_cap HOf.out⟩, HBf.out.setCell (by simp) _⟩
          have hrPf : (rP == 0) = false := by simpa using hrP
          have HOf : Hid (wP.ownsRow w9.heap.size 42 2 (.slice (some ⟨g9, 0, none⟩) (rs).length co) (rs).length (resCells (rs))) := HOP.out
          have HKf : Hid (Kp w9.heap.size (w.heap.size + 1) w9 wP) := HKP.out
          have hXf : wP.heap[X]? = some (.cells #[.slice aT T.length capT] 29 (0, 0)) := by rw [HKf.out.block X (by omega) (by omega), HK9.out.block X hzu (by omega)]; exact HXu.out
          have hRf : wP.heap[w.heap.size]? = some (.cells #[.slice none 0 0] 29 (0, 0)) := by rw [HKf.out.block w.heap.size (by omega) (by omega), HK9.out.block w.heap.size (by omega) (by omega)]; exact HRu.out
          have cXf : wP.cell? ⟨X, 0, none⟩ = some (.slice aT T.length capT) := by rw [Lib.cell_of_heap hXf]; rfl
          have cRf : wP.cell? ⟨w.heap.size, 0, none⟩ = some (.slice none 0 0) := by rw [Lib.cell_of_heap hRf]; rfl
          have fRf : wP.frozen? ⟨w.heap.size, 0, none⟩ = false := Lib.frozen_of_heap hRf 0
          have HTf : Hid (InsFrom (w.heap.size + 2) wP aT T) := (HTu.out.but HK9.out (by omega)).kp HKf.out (Nat.le_refl _) (by omega)
          have HBf : Hid (Below w.heap.size w wP) := (HBu.out.trans (HK9.out.below (by omega) (by omega))).trans (HKf.out.below (by omega) (by omega))
          clear hXf hRf
          go_wp2
          have er := World.cell?_setCell_same wP ⟨w.heap.size, 0, none⟩ (.slice aT T.length capT) cRf
          refine bodyPost_ret (v := .tuple #[.agg #[.slice aT T.length capT], .string z9, .slice (some ⟨g9, 0, none⟩) (rs).length co]) (by simp [results, Tryd.results16, go_sem, er]) rfl ⟨⟨T, aT, capT, z9, rs, (some ⟨g9, 0, none⟩), co, rfl, (HTf.out.set (by omega)).to, res_rowA (own_setNe HOf.out (fun e => by have := (HOf.out.lt _ e).1; omega)), by omega, HsT.out, hz9, by omega, hsm.out, owns_cap HOf.out⟩, HBf.out.setCell (by simp) _⟩
      · have hpos : (0 : Int) < (k : Int) := by omega
        go_wp2_with fail
        refine (c50 (w.heap.size + 1) (127 + 10 * rs.length) wr (by omega) hrd.out).mono ?_
        rintro e w10 ⟨⟨x, rfl, hx⟩, h10, hb10⟩
        obtain ⟨xc, xt⟩ := x
        simp only at hx
        have hz10 : wr.heap.size ≤ w10.heap.size := hb10.size
        have hAY : Below w10.heap.size w10 (w10.alloc (.cells #[.int .i64 xc, .string xt] 42)) := (Below.refl _ _).alloc (Nat.le_refl _) _
        have HOY : Hid ((w10.alloc (.cells #[.int .i64 xc, .string xt] 42)).ownsRow w9.heap.size 42 2 u8 rs.length (resCells rs)) := ownsRow_below (own_but hown hb10 (by omega)) hAY
        have HKY : Hid (Kp w9.heap.size (w.heap.size + 1) w9 (w10.alloc (.cells #[.int .i64 xc, .string xt] 42))) := (hkp.out.but hb10 hzr).belowB (hAY.mono (by omega))
        have HRY : Hid (RdTo (w10.alloc (.cells #[.int .i64 xc, .string xt] 42)) (w.heap.size + 1) (127 + 10 * rs.length + 3)) := RdTo.later h10 hAY
        have HYB : Hid (∀ g, (u8 : Value).ownBlock = some g → g ≠ w10.heap.size) := fun g hg => by have := ((own_but hown hb10 (by omega)).lt g hg).2; omega
        clear h10 hb10 hown hrd hkp hAY
        go_wp2_with fail
        refine (pickT (w10.alloc (.cells #[.int .i64 xc, .string xt] 42)) (w.heap.size + 1) (127 + 10 * rs.length + 3) 2 (by omega) (by omega) (by omega) HRY.out).mono ?_
        rintro e w11 ⟨⟨r11, rfl, r110, r112⟩, h11, ho11⟩
        have hz11 : w10.heap.size + 1 ≤ w11.heap.size := by rw [ho11.size]; simp
        have y0 : w11.cell? ⟨w10.heap.size, 0, none⟩ = some (.int .i64 xc) := by rw [ho11.cell (by show w10.heap.size ≠ w.heap.size + 1; omega)]; simp
        have y1 : w11.cell? ⟨w10.heap.size, 1, none⟩ = some (.string xt) := by rw [ho11.cell (by show w10.heap.size ≠ w.heap.size + 1; omega)]; simp
        have yb : Hid (w11.heap[w10.heap.size]? = some (.cells #[.int .i64 xc, .string xt] 42 (0, 0))) := (ho11.block _ (by omega)).trans (alloc_new rfl _)
        have H11 : Hid (RdTo w11 (w.heap.size + 1) (127 + 10 * rs.length + 4)) := h11
        have HO11 : Hid (w11.ownsRow w9.heap.size 42 2 u8 rs.length (resCells rs)) := own_but HOY.out ho11.but (by omega)
        have HK11 : Hid (Kp w9.heap.size (w.heap.size + 1) w9 w11) := HKY.out.but ho11.but (by simp; omega)
        clear h11 ho11 HOY HKY HRY
        by_cases h11z : r11 = 0
        · subst h11z
          go_wp2_with fail
          refine (c49 ⟨#[114]⟩ 200 w11 (by decide) (by omega)).mono ?_
          rintro e wz ⟨⟨s12, rfl, hs12⟩, hwz⟩
          obtain rfl := hwz.symm
          have hA11 : Below w11.heap.size w11 (w11.alloc (.cells #[.string ⟨#[118, 49]⟩, .string ⟨#[97, 10, 98]⟩, .string ⟨#[98]⟩, .string s12] 9)) := (Below.refl _ _).alloc (Nat.le_refl _) _
          go_wp2_with fail
          refine (pickT (w11.alloc (.cells #[.string ⟨#[118, 49]⟩, .string ⟨#[97, 10, 98]⟩, .string ⟨#[98]⟩, .string s12] 9)) (w.heap.size + 1) (127 + 10 * rs.length + 4) 4 (by omega) (by omega) (by omega) (H11.out.later hA11)).mono ?_
          rintro e w13 ⟨⟨r13, rfl, r130, r134⟩, h13, ho13⟩
          obtain ⟨z13, hz13, hc13⟩ := strs4 s12 hs12 r13 r130 r134
          have k13 : w13.cell? ⟨w11.heap.size, r13.toNat, none⟩ = some (.string z13) := by rw [ho13.cell (by show w11.heap.size ≠ w.heap.size + 1; omega), ← hc13]; simp
          have hz13' : w11.heap.size + 1 ≤ w13.heap.size := by rw [ho13.size]; simp
          have yb13 : w13.heap[w10.heap.size]? = some (.cells #[.int .i64 xc, .string xt] 42 (0, 0)) := by rw [ho13.block _ (by omega), Below.heap_alloc _ _ _ (by omega)]; exact yb.out
          have y0' : w13.cell? ⟨w10.heap.size, 0, none⟩ = some (.int .i64 xc) := by rw [Lib.cell_of_heap yb13]; rfl
          have y1' : w13.cell? ⟨w10.heap.size, 1, none⟩ = some (.string xt) := by rw [Lib.cell_of_heap yb13]; rfl
          have yf0 : w13.frozen? ⟨w10.heap.size, 0, none⟩ = false := Lib.frozen_of_heap yb13 0
          have yf1 : w13.frozen? ⟨w10.heap.size, 1, none⟩ = false := Lib.frozen_of_heap yb13 1
          have HO13 : Hid (w13.ownsRow w9.heap.size 42 2 u8 rs.length (resCells rs)) := own_but (ownsRow_below HO11.out hA11) ho13.but (by omega)
          have HK13 : Hid (Kp w9.heap.size (w.heap.size + 1) w9 w13) := (HK11.out.belowB (hA11.mono (by omega))).but ho13.but (by simp; omega)
          have H13 : Hid (RdTo w13 (w.heap.size + 1) (127 + 10 * rs.length + 5)) := h13
          obtain ⟨yy0, yy1⟩ := set2_at w13 w10.heap.size 0 (.int .i64 0) (.string z13) _ _ y0' y1'
          clear h13 ho13 hA11 hc13 yb13 y0 y1
          have hownU : ((w13.setCell ⟨w10.heap.size, 0, none⟩ (.int .i64 0)).setCell ⟨w10.heap.size, 1, none⟩ (.string z13)).ownsRow w9.heap.size 42 2 u8 rs.length (resCells rs) := own_setNe (own_setNe HO13.out (fun e => HYB.out _ e rfl)) (fun e => HYB.out _ e rfl)
          have HRU : Hid (RdTo ((w13.setCell ⟨w10.heap.size, 0, none⟩ (.int .i64 0)).setCell ⟨w10.heap.size, 1, none⟩ (.string z13)) (w.heap.size + 1) (127 + 10 * rs.length + 10)) := rd_set1 (rd_set1 (H13.out.mono (by omega)) (by omega) _ _) (by omega) _ _
          have HKU : Hid (Kp w9.heap.size (w.heap.size + 1) w9 ((w13.setCell ⟨w10.heap.size, 0, none⟩ (.int .i64 0)).setCell ⟨w10.heap.size, 1, none⟩ (.string z13))) := HK13.out.belowB (((Below.refl w9.heap.size _).setCell (by show w9.heap.size ≤ w10.heap.size; omega) _).setCell (by show w9.heap.size ≤ w10.heap.size; omega) _)
          have hzU : w9.heap.size ≤ ((w13.setCell ⟨w10.heap.size, 0, none⟩ (.int .i64 0)).setCell ⟨w10.heap.size, 1, none⟩ (.string z13)).heap.size := by first | omega | (simp; omega)
          go_wp2_with (at_builtin; refine wpList_append_own _ rfl _ _ 38 rfl w9.heap.size 42 j0 (.agg #[.int .i64 0, .string ⟨#[]⟩]) 2 24 Tryd.underlying38 hi hz0 hz1 hz2 rfl (by decide) _ _ _ rfl (hownU.alloc _) ⟨w13.heap.size, 0, none⟩ 1 1 [_, _] rfl rfl (row2g (by simp) _ _ _) (by intro u hu; simp at hu; rcases hu with rfl | rfl <;> rfl) (by unfold maxLen; omega) (by omega) (by first | (simp; done) | (simp at hzU ⊢; omega)) ?_; intro v' wF hownF hgrow _; have HBL : Hid (Below w9.heap.size ((w13.setCell ⟨w10.heap.size, 0, none⟩ (.int .i64 0)).setCell ⟨w10.heap.size, 1, none⟩ (.string z13)) wF) := ((Below.refl _ _).alloc hzU _).grown hgrow (by first | (simp; done) | (simp at hzU ⊢; omega)) (fun k hk => (hownU.lt k hk).1); clear hgrow)
          go_roundw
          case rel =>
            refine ⟨k - 1, rs ++ [⟨0, z13⟩], by go_num, by simp; omega, smallR_snoc hsm.out (by show z13.size ≤ 4021; omega), ?_, ?_, HKU.out.belowB HBL.out⟩
            · rw [resCells_snoc, List.length_append]; exact hownF
            · have e : 127 + 10 * (rs ++ [(⟨0, z13⟩ : R2)]).length = 127 + 10 * rs.length + 10 := by simp; omega
              rw [Hid, e]; exact HRU.out.laterB HBL.out (by omega)
          case measure => simp [intOf]; omega
        · obtain rfl : r11 = 1 := by omega
          have hownU : w11.ownsRow w9.heap.size 42 2 u8 rs.length (resCells rs) := HO11.out
          have HRU : Hid (RdTo w11 (w.heap.size + 1) (127 + 10 * rs.length + 10)) := H11.out.mono (by omega)
          have HKU : Hid (Kp w9.heap.size (w.heap.size + 1) w9 w11) := HK11.out
          have hzU : w9.heap.size ≤ w11.heap.size := by first | omega | (simp; omega)
          go_wp2_with (at_builtin; refine wpList_append_own _ rfl _ _ 38 rfl w9.heap.size 42 j0 (.agg #[.int .i64 0, .string ⟨#[]⟩]) 2 24 Tryd.underlying38 hi hz0 hz1 hz2 rfl (by decide) _ _ _ rfl (hownU.alloc _) ⟨w11.heap.size, 0, none⟩ 1 1 [_, _] rfl rfl (row2g (by simp) _ _ _) (by intro u hu; simp at hu; rcases hu with rfl | rfl <;> rfl) (by unfold maxLen; omega) (by omega) (by first | (simp; done) | (simp at hzU ⊢; omega)) ?_; intro v' wF hownF hgrow _; have HBL : Hid (Below w9.heap.size w11 wF) := ((Below.refl _ _).alloc hzU _).grown hgrow (by first | (simp; done) | (simp at hzU ⊢; omega)) (fun k hk => (hownU.lt k hk).1); clear hgrow)
          go_roundw
          case rel =>
            refine ⟨k - 1, rs ++ [⟨xc, xt⟩], by go_num, by simp; omega, smallR_snoc hsm.out (by show xt.size ≤ 4021; omega), ?_, ?_, HKU.out.belowB HBL.out⟩
            · rw [resCells_snoc, List.length_append]; exact hownF
            · have e : 127 + 10 * (rs ++ [(⟨xc, xt⟩ : R2)]).length = 127 + 10 * rs.length + 10 := by simp; omega
              rw [Hid, e]; exact HRU.out.laterB HBL.out (by omega)
          case measure => simp [intOf]; omega
  · have hne0 : (r3 == 0) = false := by simpa using hsp
    have HDu : Hid (RdTo w3 (w.heap.size + 1) 121) := H3.out.mono (by omega)
    have HsT : Hid (SmallT T0) := hs0
    have hlT : T0.length ≤ 42 := by omega
    have HXu := HX3
    have HRu := HR3
    have HTu := HT3
    have HBu := HB3
    have hzu : X < w3.heap.size := by omega
    clear HX3 HR3 HT3 HB3 H3 hs0
    generalize T0 = T at *
    generalize a0 = aT at *
    generalize cap0 = capT at *
    generalize w3 = u at *
    go_wp2_with fail
    refine (c48 (w.heap.size + 1) 121 u (by omega) HDu.out).mono ?_
    rintro e w5 ⟨⟨s5, rfl, hs5⟩, h5, hb5⟩
    have H5 : Hid (RdTo w5 (w.heap.size + 1) 123) := h5
    have HK5 : Hid (But (w.heap.size + 1) u w5) := hb5
    clear h5 hb5
    go_wp2_with fail
    refine (pickT w5 (w.heap.size + 1) 123 2 (by omega) (by omega) (by omega) H5.out).mono ?_
    rintro e w6 ⟨⟨r6, rfl, r60, r62⟩, h6, ho6⟩
    have H6 : Hid (RdTo w6 (w.heap.size + 1) 124) := h6
    have HK6 : Hid (But (w.heap.size + 1) u w6) := HK5.out.trans ho6.but
    obtain ⟨n6, rfl⟩ := Int.eq_ofNat_of_zero_le r60
    clear h6 ho6 H5 HK5
    go_wp2_with fail
    refine (pickT w6 (w.heap.size + 1) 124 2 (by omega) (by omega) (by omega) H6.out).mono ?_
    rintro e w7 ⟨⟨r7, rfl, r70, r72⟩, h7, ho7⟩
    have H7 : Hid (RdTo w7 (w.heap.size + 1) 125) := h7
    have HK7 : Hid (But (w.heap.size + 1) u w7) := HK6.out.trans ho7.but
    obtain ⟨n7, rfl⟩ := Int.eq_ofNat_of_zero_le r70
    have hm0 : (0 : Int) ≤ (n6 : Int) * (n7 : Int) := Int.mul_nonneg r60 r70
    have hmn : n6 * n7 ≤ 1 := Nat.mul_le_mul (show n6 ≤ 1 by omega) (show n7 ≤ 1 by omega)
    have hm1 : (n6 : Int) * (n7 : Int) ≤ 1 := by exact_mod_cast hmn
    clear h7 ho7 H6 HK6
    go_wp2_with fail
    refine (c49 ⟨#[103]⟩ (300 + n6 * n7) w7 (by decide) (by omega)).mono ?_
    rintro e wz ⟨⟨s8, rfl, hs8⟩, hwz⟩
    obtain rfl := hwz.symm
    have hA7 : Below w7.heap.size w7 (w7.alloc (.cells #[.string ⟨#[97]⟩, .string ⟨#[97, 10, 98]⟩, .string ⟨#[120, 49]⟩, .string ⟨#[]⟩, .string s5, .string s8] 9)) := (Below.refl _ _).alloc (Nat.le_refl _) _
    have hq7 : (w.heap.size + 1) < w7.heap.size := H7.out.lt
    go_wp2_with fail
    refine (pickT (w7.alloc (.cells #[.string ⟨#[97]⟩, .string ⟨#[97, 10, 98]⟩, .string ⟨#[120, 49]⟩, .string ⟨#[]⟩, .string s5, .string s8] 9)) (w.heap.size + 1) 125 6 (by omega) (by omega) (by omega) (H7.out.later hA7)).mono ?_
    rintro e w9 ⟨⟨r9, rfl, r90, r96⟩, h9, ho9⟩
    obtain ⟨z9, hz9, hc9⟩ := strs6 s5 s8 (by omega) hs8 r9 r90 r96
    have k9 : w9.cell? ⟨w7.heap.size, r9.toNat, none⟩ = some (.string z9) := by rw [ho9.cell (by show w7.heap.size ≠ (w.heap.size + 1); omega), ← hc9]; simp
    have HK9 : Hid (But (w.heap.size + 1) u w9) := (HK7.out.later hA7).trans ho9.but
    have hA9 : Below w9.heap.size w9 (w9.alloc (.cells #[] 42)) := (Below.refl _ _).alloc (Nat.le_refl _) _
    have H9 : Hid (RdTo (w9.alloc (.cells #[] 42)) (w.heap.size + 1) 126) := RdTo.later h9 hA9
    have hq9 : (w.heap.size + 1) < w9.heap.size := RdTo.lt h9
    have hz9u : u.heap.size ≤ w9.heap.size := HK9.out.size
    clear h9 ho9 H7 HK7 hA7 hc9
    go_wp2_with fail
    refine (pickT (w9.alloc (.cells #[] 42)) (w.heap.size + 1) 126 6 (by omega) (by omega) (by omega) H9.out).mono ?_
    rintro e wA ⟨⟨rA, rfl, rA0, rA6⟩, hA, hoA⟩
    obtain ⟨nA, rfl⟩ := Int.eq_ofNat_of_zero_le rA0
    have HA : Hid (RdTo wA (w.heap.size + 1) 127) := hA
    have HownA : Hid (wA.ownsRow w9.heap.size 42 2 (.slice (some ⟨w9.heap.size, 0, none⟩) 0 0) 0 (resCells [])) := hoA.owns (World.ownsRow_lit (base := w9.heap.size) (e := 42) (size := 2) w9 #[] 0 (Nat.le_refl _) (Nat.zero_le _) rfl) (by omega)
    have HKA : Hid (Kp w9.heap.size (w.heap.size + 1) w9 wA) := ⟨hoA.os.trans hA9.os, hoA.tape.trans hA9.tape, hoA.output.trans hA9.output, by rw [hoA.size]; simp, fun k hk hne => by rw [hoA.block k hne, Below.heap_alloc _ _ _ hk]⟩
    clear hA hoA hA9 H9
    obtain ⟨j0, hi, hz0, hz1, hz2⟩ := info_parts info42
    have hbase : w.heap.size + 2 ≤ w9.heap.size := by omega
    go_wp2_with fail
    go_loopw [8, 9] (fun v i wr => ∃ (k : Nat) (rs : List R2), i = .int .i64 k ∧ k + rs.length ≤ 5 ∧ Hid (SmallR rs) ∧ wr.ownsRow w9.heap.size 42 2 v rs.length (resCells rs) ∧ Hid (RdTo wr (w.heap.size + 1) (127 + 10 * rs.length)) ∧ Hid (Kp w9.heap.size (w.heap.size + 1) w9 wr)) (fun _ i _ => (intOf i).toNat)
    case atStart => exact ⟨nA, [], rfl, by simp; omega, fun i => by simp [r2z, ByteArray.size], HownA.out, HA, HKA⟩
    case round =>
      clear HownA HA HKA
      obtain ⟨k, rs, rfl, hk, hsm, hown, hrd, hkp⟩ := hrel
      have hzr : w9.heap.size ≤ wr.heap.size := hkp.out.size
      by_cases hk0 : k = 0
      · subst hk0
        go_wp2_with fail
        refine (pickT wr (w.heap.size + 1) (127 + 10 * rs.length) 12 (by omega) (by omega) (by omega) hrd.out).mono ?_
        rintro e wB ⟨⟨rB, rfl, rB0, rB12⟩, hB', hoB⟩
        have HRB : Hid (RdTo wB (w.heap.size + 1) (127 + 10 * rs.length + 1)) := hB'
        have HOB : Hid (wB.ownsRow w9.heap.size 42 2 u8 rs.length (resCells rs)) := own_but hown hoB.but (by omega)
        have HKB : Hid (Kp w9.heap.size (w.heap.size + 1) w9 wB) := hkp.out.but hoB.but hzr
        have hzB : w9.heap.size ≤ wB.heap.size := HKB.out.size
        clear hB' hoB hown hrd hkp
        by_cases hrB : rB = 0
        · subst hrB
          go_wp2_with fail
          refine (pickT wB (w.heap.size + 1) (127 + 10 * rs.length + 1) 3 (by omega) (by omega) (by omega) HRB.out).mono ?_
          rintro e wC ⟨⟨rC, rfl, rC0, rC3⟩, hC, hoC⟩
          have HRC : Hid (RdTo wC (w.heap.size + 1) (127 + 10 * rs.length + 2)) := hC
          have HOC : Hid (wC.ownsRow w9.heap.size 42 2 u8 rs.length (resCells rs)) := own_but HOB.out hoC.but (by omega)
          have HKC : Hid (Kp w9.heap.size (w.heap.size + 1) w9 wC) := HKB.out.but hoC.but hzB
          clear hC hoC HOB HKB HRB
          go_wp2_with fail
          go_loopw [8] (fun v wx => ∃ (rs : List R2), rs.length ≤ 15 ∧ Hid (SmallR rs) ∧ wx.ownsRow w9.heap.size 42 2 v rs.length (resCells rs) ∧ Hid (RdTo wx (w.heap.size + 1) 300) ∧ Hid (Kp w9.heap.size (w.heap.size + 1) w9 wx)) (fun v _ => 15 - lenOf v)
          case atStart => exact ⟨rs, by omega, hsm, HOC.out, HRC.out.mono (by omega), HKC⟩
          case round =>
            clear HRC HOC HKC hsm hk
            obtain ⟨rs, hrl, hsm, hownx, hrdx, hkpx⟩ := hrel
            have hzx : w9.heap.size ≤ wr.heap.size := hkpx.out.size
            have hM0 := lenOf_owns2 hownx
            obtain ⟨ao, co, hvo⟩ := row_form2a hownx
            subst hvo
            by_cases hgo : (rs.length : Int) < 15 - rC
            · go_wp2_with (at_builtin; refine wpList_append_own _ rfl _ _ 38 rfl w9.heap.size 42 j0 (.agg #[.int .i64 0, .string ⟨#[]⟩]) 2 24 Tryd.underlying38 hi hz0 hz1 hz2 rfl (by decide) _ _ _ rfl (hownx.alloc _) ⟨wr.heap.size, 0, none⟩ 1 1 [_, _] rfl rfl (row2g (by simp) _ _ _) (by intro u hu; simp at hu; rcases hu with rfl | rfl <;> rfl) (by unfold maxLen; omega) (by omega) (by simp; omega) ?_; intro v' wF hownF hgrow _; have HBL : Hid (Below w9.heap.size wr wF) := ((Below.refl _ _).alloc hzx _).grown hgrow (by simp; omega) (fun k hk => (hownx.lt k hk).1); clear hgrow)
              go_roundw
              case rel =>
                refine ⟨rs ++ [⟨0, ⟨#[98]⟩⟩], by simp; omega, smallR_snoc hsm.out (by show (⟨#[98]⟩ : ByteArray).size ≤ 4021; decide), ?_, hrdx.out.laterB HBL.out (by omega), hkpx.out.belowB HBL.out⟩
                rw [resCells_snoc, List.length_append]; exact hownF
              case measure =>
                have := lenOf_owns2 hownF
                simp only [lenOf] at *
                omega
            · have hrs0 : ¬ rs.length = 0 := by omega
              have hrp : (0 : Int) < (rs.length : Int) := by omega
              obtain ⟨g9, c9, hv9⟩ := row_form2 (hownx) (by omega)
              have hAO : ao = some ⟨g9, 0, none⟩ := by injection hv9
              have hown9 : wr.ownsRow w9.heap.size 42 2 (.slice (some ⟨g9, 0, none⟩) rs.length co) rs.length (resCells rs) := by rw [← hAO]; exact hownx
              subst hAO
              clear hv9
              go_wp2_with fail
              refine (pickT wr (w.heap.size + 1) (300) 16 (by omega) (by omega) (by omega) (hrdx.out)).mono ?_
              rintro e wP ⟨⟨rP, rfl, rP0, rP16⟩, hP, hoP⟩
              have HOP : Hid (wP.ownsRow w9.heap.size 42 2 (.slice (some ⟨g9, 0, none⟩) rs.length co) rs.length (resCells rs)) := own_but hown9 hoP.but (by omega)
              have HKP : Hid (Kp w9.heap.size (w.heap.size + 1) w9 wP) := (hkpx.out).but hoP.but (by omega)
              have hzP : w9.heap.size ≤ wP.heap.size := HKP.out.size
              clear hP hoP hown9
              by_cases hrP : rP = 0
              · subst hrP
                have HBP : Hid (Below w.heap.size w wP) := (HBu.out.trans (HK9.out.below (by omega) (by omega))).trans (HKP.out.below (by omega) (by omega))
                go_wp2_with fail
                refine (c51 a L cap wP hL hcap (HBY.out _ HBP.out)).mono ?_
                rintro e wQ ⟨⟨xQ, rfl, hxQ⟩, hbQ⟩
                obtain ⟨qc, qt⟩ := xQ
                simp only at hxQ
                have HOQ : Hid (wQ.ownsRow w9.heap.size 42 2 (.slice (some ⟨g9, 0, none⟩) rs.length co) rs.length (resCells rs)) := ownsRow_below HOP.out hbQ
                have HKQ : Hid (Kp w9.heap.size (w.heap.size + 1) w9 wQ) := HKP.out.belowB (hbQ.mono hzP)
                obtain ⟨rg0, rg1⟩ := resCells_get rs 0 (by omega)
                have g0c := (HOQ.out.cellAt 0 (by omega)).trans rg0
                have g1c := (HOQ.out.cellAt 1 (by omega)).trans rg1
                have g0f := HOQ.out.frozenAt 0
                have g1f := HOQ.out.frozenAt 1
                have hg9 := HOQ.out.lt g9 rfl
                have hng1 : ¬ X = g9 := by omega
                have hng2 : ¬ g9 = X := by omega
                have hng3 : ¬ w.heap.size = g9 := by omega
                have hng4 : ¬ g9 = w.heap.size := by omega
                clear hbQ rg0 rg1
                have HOf : Hid (((wQ.setCell ⟨g9, 0, none⟩ (.int .i64 qc)).setCell ⟨g9, 1, none⟩ (.string qt)).ownsRow w9.heap.size 42 2 (.slice (some ⟨g9, 0, none⟩) (rs.set 0 ⟨qc, qt⟩).length co) (rs.set 0 ⟨qc, qt⟩).length (resCells (rs.set 0 ⟨qc, qt⟩))) := by have h := ((HOQ.out.stored 0 (.int .i64 qc)).1.stored 1 (.string qt)).1; rw [resCells_set0 rs ⟨qc, qt⟩ (by omega)] at h; rw [List.length_set]; exact h
                have HKf : Hid (Kp w9.heap.size (w.heap.size + 1) w9 ((wQ.setCell ⟨g9, 0, none⟩ (.int .i64 qc)).setCell ⟨g9, 1, none⟩ (.string qt))) := HKQ.out.belowB (((Below.refl w9.heap.size _).setCell (by exact hg9.1) _).setCell (by exact hg9.1) _)
                have hXf : ((wQ.setCell ⟨g9, 0, none⟩ (.int .i64 qc)).setCell ⟨g9, 1, none⟩ (.string qt)).heap[X]? = some (.cells #[.slice aT T.length capT] 29 (0, 0)) := by rw [HKf.out.block X (by omega) (by omega), HK9.out.block X hzu (by omega)]; exact HXu.out
                have hRf : ((wQ.setCell ⟨g9, 0, none⟩ (.int .i64 qc)).setCell ⟨g9, 1, none⟩ (.string qt)).heap[w.heap.size]? = some (.cells #[.slice none 0 0] 29 (0, 0)) := by rw [HKf.out.block w.heap.size (by omega) (by omega), HK9.out.block w.heap.size (by omega) (by omega)]; exact HRu.out
                have cXf : ((wQ.setCell ⟨g9, 0, none⟩ (.int .i64 qc)).setCell ⟨g9, 1, none⟩ (.string qt)).cell? ⟨X, 0, none⟩ = some (.slice aT T.length capT) := by rw [Lib.cell_of_heap hXf]; rfl
                have cRf : ((wQ.setCell ⟨g9, 0, none⟩ (.int .i64 qc)).setCell ⟨g9, 1, none⟩ (.string qt)).cell? ⟨w.heap.size, 0, none⟩ = some (.slice none 0 0) := by rw [Lib.cell_of_heap hRf]; rfl
                have fRf : ((wQ.setCell ⟨g9, 0, none⟩ (.int .i64 qc)).setCell ⟨g9, 1, none⟩ (.string qt)).frozen? ⟨w.heap.size, 0, none⟩ = false := Lib.frozen_of_heap hRf 0
                have HTf : Hid (InsFrom (w.heap.size + 2) ((wQ.setCell ⟨g9, 0, none⟩ (.int .i64 qc)).setCell ⟨g9, 1, none⟩ (.string qt)) aT T) := (HTu.out.but HK9.out (by omega)).kp HKf.out (Nat.le_refl _) (by omega)
                have HBf : Hid (Below w.heap.size w ((wQ.setCell ⟨g9, 0, none⟩ (.int .i64 qc)).setCell ⟨g9, 1, none⟩ (.string qt))) := (HBu.out.trans (HK9.out.below (by omega) (by omega))).trans (HKf.out.below (by omega) (by omega))
                clear hXf hRf
                go_wp2
                have er := World.cell?_setCell_same ((wQ.setCell ⟨g9, 0, none⟩ (.int .i64 qc)).setCell ⟨g9, 1, none⟩ (.string qt)) ⟨w.heap.size, 0, none⟩ (.slice aT T.length capT) cRf
                refine bodyPost_ret (v := .tuple #[.agg #[.slice aT T.length capT], .string z9, .slice (some ⟨g9, 0, none⟩) (rs.set 0 ⟨qc, qt⟩).length co]) (by simp [results, Tryd.results16, go_sem, er]) rfl ⟨⟨T, aT, capT, z9, rs.set 0 ⟨qc, qt⟩, (some ⟨g9, 0, none⟩), co, rfl, (HTf.out.set (by omega)).to, res_rowA (own_setNe HOf.out (fun e => by have := (HOf.out.lt _ e).1; omega)), by omega, HsT.out, hz9, by rw [List.length_set]; omega, smallR_set (hsm.out) hxQ, owns_cap HOf.out⟩, HBf.out.setCell (by simp) _⟩
              have hrPf : (rP == 0) = false := by simpa using hrP
              have HOf : Hid (wP.ownsRow w9.heap.size 42 2 (.slice (some ⟨g9, 0, none⟩) (rs).length co) (rs).length (resCells (rs))) := HOP.out
              have HKf : Hid (Kp w9.heap.size (w.heap.size + 1) w9 wP) := HKP.out
              have hXf : wP.heap[X]? = some (.cells #[.slice aT T.length capT] 29 (0, 0)) := by rw [HKf.out.block X (by omega) (by omega), HK9.out.block X hzu (by omega)]; exact HXu.out
              have hRf : wP.heap[w.heap.size]? = some (.cells #[.slice none 0 0] 29 (0, 0)) := by rw [HKf.out.block w.heap.size (by omega) (by omega), HK9.out.block w.heap.size (by omega) (by omega)]; exact HRu.out
              have cXf : wP.cell? ⟨X, 0, none⟩ = some (.slice aT T.length capT) := by rw [Lib.cell_of_heap hXf]; rfl
              have cRf : wP.cell? ⟨w.heap.size, 0, none⟩ = some (.slice none 0 0) := by rw [Lib.cell_of_heap hRf]; rfl
              have fRf : wP.frozen? ⟨w.heap.size, 0, none⟩ = false := Lib.frozen_of_heap hRf 0
              have HTf : Hid (InsFrom (w.heap.size + 2) wP aT T) := (HTu.out.but HK9.out (by omega)).kp HKf.out (Nat.le_refl _) (by omega)
              have HBf : Hid (Below w.heap.size w wP) := (HBu.out.trans (HK9.out.below (by omega) (by omega))).trans (HKf.out.below (by omega) (by omega))
              clear hXf hRf
              go_wp2
              have er := World.cell?_setCell_same wP ⟨w.heap.size, 0, none⟩ (.slice aT T.length capT) cRf
              refine bodyPost_ret (v := .tuple #[.agg #[.slice aT T.length capT], .string z9, .slice (some ⟨g9, 0, none⟩) (rs).length co]) (by simp [results, Tryd.results16, go_sem, er]) rfl ⟨⟨T, aT, capT, z9, rs, (some ⟨g9, 0, none⟩), co, rfl, (HTf.out.set (by omega)).to, res_rowA (own_setNe HOf.out (fun e => by have := (HOf.out.lt _ e).1; omega)), by omega, HsT.out, hz9, by omega, hsm.out, owns_cap HOf.out⟩, HBf.out.setCell (by simp) _⟩
        · have hrBf : (rB == 0) = false := by simpa using hrB
          obtain ⟨ao, co, hvo⟩ := row_form2a HOB.out
          subst hvo
          by_cases hrs0 : rs.length = 0
          · obtain rfl : rs = [] := List.length_eq_zero_iff.1 hrs0
            clear hrs0
            have HOf : Hid (wB.ownsRow w9.heap.size 42 2 (.slice ao (([] : List R2)).length co) (([] : List R2)).length (resCells (([] : List R2)))) := HOB.out
            have HKf : Hid (Kp w9.heap.size (w.heap.size + 1) w9 wB) := HKB.out
            have hXf : wB.heap[X]? = some (.cells #[.slice aT T.length capT] 29 (0, 0)) := by rw [HKf.out.block X (by omega) (by omega), HK9.out.block X hzu (by omega)]; exact HXu.out
            have hRf : wB.heap[w.heap.size]? = some (.cells #[.slice none 0 0] 29 (0, 0)) := by rw [HKf.out.block w.heap.size (by omega) (by omega), HK9.out.block w.heap.size (by omega) (by omega)]; exact HRu.out
            have cXf : wB.cell? ⟨X, 0, none⟩ = some (.slice aT T.length capT) := by rw [Lib.cell_of_heap hXf]; rfl
            have cRf : wB.cell? ⟨w.heap.size, 0, none⟩ = some (.slice none 0 0) := by rw [Lib.cell_of_heap hRf]; rfl
            have fRf : wB.frozen? ⟨w.heap.size, 0, none⟩ = false := Lib.frozen_of_heap hRf 0
            have HTf : Hid (InsFrom (w.heap.size + 2) wB aT T) := (HTu.out.but HK9.out (by omega)).kp HKf.out (Nat.le_refl _) (by omega)
            have HBf : Hid (Below w.heap.size w wB) := (HBu.out.trans (HK9.out.below (by omega) (by omega))).trans (HKf.out.below (by omega) (by omega))
            clear hXf hRf
            go_wp2
            have er := World.cell?_setCell_same wB ⟨w.heap.size, 0, none⟩ (.slice aT T.length capT) cRf
            refine bodyPost_ret (v := .tuple #[.agg #[.slice aT T.length capT], .string z9, .slice ao (([] : List R2)).length co]) (by simp [results, Tryd.results16, go_sem, er]) rfl ⟨⟨T, aT, capT, z9, ([] : List R2), ao, co, rfl, (HTf.out.set (by omega)).to, res_rowA (own_setNe HOf.out (fun e => by have := (HOf.out.lt _ e).1; omega)), by omega, HsT.out, hz9, by simp, hsm.out, owns_cap HOf.out⟩, HBf.out.setCell (by simp) _⟩
          have hrp : (0 : Int) < (rs.length : Int) := by omega
          obtain ⟨g9, c9, hv9⟩ := row_form2 (HOB.out) (by omega)
          have hAO : ao = some ⟨g9, 0, none⟩ := by injection hv9
          have hown9 : wB.ownsRow w9.heap.size 42 2 (.slice (some ⟨g9, 0, none⟩) rs.length co) rs.length (resCells rs) := by rw [← hAO]; exact HOB.out
          subst hAO
          clear hv9
          go_wp2_with fail
          refine (pickT wB (w.heap.size + 1) (127 + 10 * rs.length + 1) 16 (by omega) (by omega) (by omega) (HRB.out)).mono ?_
          rintro e wP ⟨⟨rP, rfl, rP0, rP16⟩, hP, hoP⟩
          have HOP : Hid (wP.ownsRow w9.heap.size 42 2 (.slice (some ⟨g9, 0, none⟩) rs.length co) rs.length (resCells rs)) := own_but hown9 hoP.but (by omega)
          have HKP : Hid (Kp w9.heap.size (w.heap.size + 1) w9 wP) := (HKB.out).but hoP.but (by omega)
          have hzP : w9.heap.size ≤ wP.heap.size := HKP.out.size
          clear hP hoP hown9
          by_cases hrP : rP = 0
          · subst hrP
            have HBP : Hid (Below w.heap.size w wP) := (HBu.out.trans (HK9.out.below (by omega) (by omega))).trans (HKP.out.below (by omega) (by omega))
            go_wp2_with fail
            refine (c51 a L cap wP hL hcap (HBY.out _ HBP.out)).mono ?_
            rintro e wQ ⟨⟨xQ, rfl, hxQ⟩, hbQ⟩
            obtain ⟨qc, qt⟩ := xQ
            simp only at hxQ
            have HOQ : Hid (wQ.ownsRow w9.heap.size 42 2 (.slice (some ⟨g9, 0, none⟩) rs.length co) rs.length (resCells rs)) := ownsRow_below HOP.out hbQ
            have HKQ : Hid (Kp w9.heap.size (w.heap.size + 1) w9 wQ) := HKP.out.belowB (hbQ.mono hzP)
            obtain ⟨rg0, rg1⟩ := resCells_get rs 0 (by omega)
            have g0c := (HOQ.out.cellAt 0 (by omega)).trans rg0
            have g1c := (HOQ.out.cellAt 1 (by omega)).trans rg1
            have g0f := HOQ.out.frozenAt 0
            have g1f := HOQ.out.frozenAt 1
            have hg9 := HOQ.out.lt g9 rfl
            have hng1 : ¬ X = g9 := by omega
            have hng2 : ¬ g9 = X := by omega
            have hng3 : ¬ w.heap.size = g9 := by omega
            have hng4 : ¬ g9 = w.heap.size := by omega
            clear hbQ rg0 rg1
            have HOf : Hid (((wQ.setCell ⟨g9, 0, none⟩ (.int .i64 qc)).setCell ⟨g9, 1, none⟩ (.string qt)).ownsRow w9.heap.size 42 2 (.slice (some ⟨g9, 0, none⟩) (rs.set 0 ⟨qc, qt⟩).length co) (rs.set 0 ⟨qc, qt⟩).length (resCells (rs.set 0 ⟨qc, qt⟩))) := by have h := ((HOQ.out.stored 0 (.int .i64 qc)).1.stored 1 (.string qt)).1; rw [resCells_set0 rs ⟨qc, qt⟩ (by omega)] at h; rw [List.length_set]; exact h
            have HKf : Hid (Kp w9.heap.size (w.heap.size + 1) w9 ((wQ.setCell ⟨g9, 0, none⟩ (.int .i64 qc)).setCell ⟨g9, 1, none⟩ (.string qt))) := HKQ.out.belowB (((Below.refl w9.heap.size _).setCell (by exact hg9.1) _).setCell (by exact hg9.1) _)
            have hXf : ((wQ.setCell ⟨g9, 0, none⟩ (.int .i64 qc)).setCell ⟨g9, 1, none⟩ (.string qt)).heap[X]? = some (.cells #[.slice aT T.length capT] 29 (0, 0)) := by rw [HKf.out.block X (by omega) (by omega), HK9.out.block X hzu (by omega)]; exact HXu.out
            have hRf : ((wQ.setCell ⟨g9, 0, none⟩ (.int .i64 qc)).setCell ⟨g9, 1, none⟩ (.string qt)).heap[w.heap.size]? = some (.cells #[.slice none 0 0] 29 (0, 0)) := by rw [HKf.out.block w.heap.size (by omega) (by omega), HK9.out.block w.heap.size (by omega) (by omega)]; exact HRu.out
            have cXf : ((wQ.setCell ⟨g9, 0, none⟩ (.int .i64 qc)).setCell ⟨g9, 1, none⟩ (.string qt)).cell? ⟨X, 0, none⟩ = some (.slice aT T.length capT) := by rw [Lib.cell_of_heap hXf]; rfl
            have cRf : ((wQ.setCell ⟨g9, 0, none⟩ (.int .i64 qc)).setCell ⟨g9, 1, none⟩ (.string qt)).cell? ⟨w.heap.size, 0, none⟩ = some (.slice none 0 0) := by rw [Lib.cell_of_heap hRf]; rfl
            have fRf : ((wQ.setCell ⟨g9, 0, none⟩ (.int .i64 qc)).setCell ⟨g9, 1, none⟩ (.string qt)).frozen? ⟨w.heap.size, 0, none⟩ = false := Lib.frozen_of_heap hRf 0
            have HTf : Hid (InsFrom (w.heap.size + 2) ((wQ.setCell ⟨g9, 0, none⟩ (.int .i64 qc)).setCell ⟨g9, 1, none⟩ (.string qt)) aT T) := (HTu.out.but HK9.out (by omega)).kp HKf.out (Nat.le_refl _) (by omega)
            have HBf : Hid (Below w.heap.size w ((wQ.setCell ⟨g9, 0, none⟩ (.int .i64 qc)).setCell ⟨g9, 1, none⟩ (.string qt))) := (HBu.out.trans (HK9.out.below (by omega) (by omega))).trans (HKf.out.below (by omega) (by omega))
            clear hXf hRf
            go_wp2
            have er := World.cell?_setCell_same ((wQ.setCell ⟨g9, 0, none⟩ (.int .i64 qc)).setCell ⟨g9, 1, none⟩ (.string qt)) ⟨w.heap.size, 0, none⟩ (.slice aT T.length capT) cRf
            refine bodyPost_ret (v := .tuple #[.agg #[.slice aT T.length capT], .string z9, .slice (some ⟨g9, 0, none⟩) (rs.set 0 ⟨qc, qt⟩).length co]) (by simp [results, Tryd.results16, go_sem, er]) rfl ⟨⟨T, aT, capT, z9, rs.set 0 ⟨qc, qt⟩, (some ⟨g9, 0, none⟩), co, rfl, (HTf.out.set (by omega)).to, res_rowA (own_setNe HOf.out (fun e => by have := (HOf.out.lt _ e).1; omega)), by omega, HsT.out, hz9, by rw [List.length_set]; omega, smallR_set (hsm.out) hxQ, owns_cap HOf.out⟩, HBf.out.setCell (by simp) _⟩
          have hrPf : (rP == 0) = false := by simpa using hrP
          have HOf : Hid (wP.ownsRow w9.heap.size 42 2 (.slice (some ⟨g9, 0, none⟩) (rs).length co) (rs).length (resCells (rs))) := HOP.out
          have HKf : Hid (Kp w9.heap.size (w.heap.size + 1) w9 wP) := HKP.out
          have hXf : wP.heap[X]? = some (.cells #[.slice aT T.length capT] 29 (0, 0)) := by rw [HKf.out.block X (by omega) (by omega), HK9.out.block X hzu (by omega)]; exact HXu.out
          have hRf : wP.heap[w.heap.size]? = some (.cells #[.slice none 0 0] 29 (0, 0)) := by rw [HKf.out.block w.heap.size (by omega) (by omega), HK9.out.block w.heap.size (by omega) (by omega)]; exact HRu.out
          have cXf : wP.cell? ⟨X, 0, none⟩ = some (.slice aT T.length capT) := by rw [Lib.cell_of_heap hXf]; rfl
          have cRf : wP.cell? ⟨w.heap.size, 0, none⟩ = some (.slice none 0 0) := by rw [Lib.cell_of_heap hRf]; rfl
          have fRf : wP.frozen? ⟨w.heap.size, 0, none⟩ = false := Lib.frozen_of_heap hRf 0
          have HTf : Hid (InsFrom (w.heap.size + 2) wP aT T) := (HTu.out.but HK9.out (by omega)).kp HKf.out (Nat.le_refl _) (by omega)
          have HBf : Hid (Below w.heap.size w wP) := (HBu.out.trans (HK9.out.below (by omega) (by omega))).trans (HKf.out.below (by omega) (by omega))
          clear hXf hRf
          go_wp2
          have er := World.cell?_setCell_same wP ⟨w.heap.size, 0, none⟩ (.slice aT T.length capT) cRf
          refine bodyPost_ret (v := .tuple #[.agg #[.slice aT T.length capT], .string z9, .slice (some ⟨g9, 0, none⟩) (rs).length co]) (by simp [results, Tryd.results16, go_sem, er]) rfl ⟨⟨T, aT, capT, z9, rs, (some ⟨g9, 0, none⟩), co, rfl, (HTf.out.set (by omega)).to, res_rowA (own_setNe HOf.out (fun e => by have := (HOf.out.lt _ e).1; omega)), by omega, HsT.out, hz9, by omega, hsm.out, owns_cap HOf.out⟩, HBf.out.setCell (by simp) _⟩
      · have hpos : (0 : Int) < (k : Int) := by omega
        go_wp2_with fail
        refine (c50 (w.heap.size + 1) (127 + 10 * rs.length) wr (by omega) hrd.out).mono ?_
        rintro e w10 ⟨⟨x, rfl, hx⟩, h10, hb10⟩
        obtain ⟨xc, xt⟩ := x
        simp only at hx
        have hz10 : wr.heap.size ≤ w10.heap.size := hb10.size
        have hAY : Below w10.heap.size w10 (w10.alloc (.cells #[.int .i64 xc, .string xt] 42)) := (Below.refl _ _).alloc (Nat.le_refl _) _
        have HOY : Hid ((w10.alloc (.cells #[.int .i64 xc, .string xt] 42)).ownsRow w9.heap.size 42 2 u8 rs.length (resCells rs)) := ownsRow_below (own_but hown hb10 (by omega)) hAY
        have HKY : Hid (Kp w9.heap.size (w.heap.size + 1) w9 (w10.alloc (.cells #[.int .i64 xc, .string xt] 42))) := (hkp.out.but hb10 hzr).belowB (hAY.mono (by omega))
        have HRY : Hid (RdTo (w10.alloc (.cells #[.int .i64 xc, .string xt] 42)) (w.heap.size + 1) (127 + 10 * rs.length + 3)) := RdTo.later h10 hAY
        have HYB : Hid (∀ g, (u8 : Value).ownBlock = some g → g ≠ w10.heap.size) := fun g hg => by have := ((own_but hown hb10 (by omega)).lt g hg).2; omega
        clear h10 hb10 hown hrd hkp hAY
        go_wp2_with fail
        refine (pickT (w10.alloc (.cells #[.int .i64 xc, .string xt] 42)) (w.heap.size + 1) (127 + 10 * rs.length + 3) 2 (by omega) (by omega) (by omega) HRY.out).mono ?_
        rintro e w11 ⟨⟨r11, rfl, r110, r112⟩, h11, ho11⟩
        have hz11 : w10.heap.size + 1 ≤ w11.heap.size := by rw [ho11.size]; simp
        have y0 : w11.cell? ⟨w10.heap.size, 0, none⟩ = some (.int .i64 xc) := by rw [ho11.cell (by show w10.heap.size ≠ w.heap.size + 1; omega)]; simp
        have y1 : w11.cell? ⟨w10.heap.size, 1, none⟩ = some (.string xt) := by rw [ho11.cell (by show w10.heap.size ≠ w.heap.size + 1; omega)]; simp
        have yb : Hid (w11.heap[w10.heap.size]? = some (.cells #[.int .i64 xc, .string xt] 42 (0, 0))) := (ho11.block _ (by omega)).trans (alloc_new rfl _)
        have H11 : Hid (RdTo w11 (w.heap.size + 1) (127 + 10 * rs.length + 4)) := h11
        have HO11 : Hid (w11.ownsRow w9.heap.size 42 2 u8 rs.length (resCells rs)) := own_but HOY.out ho11.but (by omega)
        have HK11 : Hid (Kp w9.heap.size (w.heap.size + 1) w9 w11) := HKY.out.but ho11.but (by simp; omega)
        clear h11 ho11 HOY HKY HRY
        by_cases h11z : r11 = 0
        · subst h11z
          go_wp2_with fail
          refine (c49 ⟨#[114]⟩ 200 w11 (by decide) (by omega)).mono ?_
          rintro e wz ⟨⟨s12, rfl, hs12⟩, hwz⟩
          obtain rfl := hwz.symm
          have hA11 : Below w11.heap.size w11 (w11.alloc (.cells #[.string ⟨#[118, 49]⟩, .string ⟨#[97, 10, 98]⟩, .string ⟨#[98]⟩, .string s12] 9)) := (Below.refl _ _).alloc (Nat.le_refl _) _
          go_wp2_with fail
          refine (pickT (w11.alloc (.cells #[.string ⟨#[118, 49]⟩, .string ⟨#[97, 10, 98]⟩, .string ⟨#[98]⟩, .string s12] 9)) (w.heap.size + 1) (127 + 10 * rs.length + 4) 4 (by omega) (by omega) (by omega) (H11.out.later hA11)).mono ?_
          rintro e w13 ⟨⟨r13, rfl, r130, r134⟩, h13, ho13⟩
          obtain ⟨z13, hz13, hc13⟩ := strs4 s12 hs12 r13 r130 r134
          have k13 : w13.cell? ⟨w11.heap.size, r13.toNat, none⟩ = some (.string z13) := by rw [ho13.cell (by show w11.heap.size ≠ w.heap.size + 1; omega), ← hc13]; simp
          have hz13' : w11.heap.size + 1 ≤ w13.heap.size := by rw [ho13.size]; simp
          have yb13 : w13.heap[w10.heap.size]? = some (.cells #[.int .i64 xc, .string xt] 42 (0, 0)) := by rw [ho13.block _ (by omega), Below.heap_alloc _ _ _ (by omega)]; exact yb.out
          have y0' : w13.cell? ⟨w10.heap.size, 0, none⟩ = some (.int .i64 xc) := by rw [Lib.cell_of_heap yb13]; rfl
          have y1' : w13.cell? ⟨w10.heap.size, 1, none⟩ = some (.string xt) := by rw [Lib.cell_of_heap yb13]; rfl
          have yf0 : w13.frozen? ⟨w10.heap.size, 0, none⟩ = false := Lib.frozen_of_heap yb13 0
          have yf1 : w13.frozen? ⟨w10.heap.size, 1, none⟩ = false := Lib.frozen_of_heap yb13 1
          have HO13 : Hid (w13.ownsRow w9.heap.size 42 2 u8 rs.length (resCells rs)) := own_but (ownsRow_below HO11.out hA11) ho13.but (by omega)
          have HK13 : Hid (Kp w9.heap.size (w.heap.size + 1) w9 w13) := (HK11.out.belowB (hA11.mono (by omega))).but ho13.but (by simp; omega)
          have H13 : Hid (RdTo w13 (w.heap.size + 1) (127 + 10 * rs.length + 5)) := h13
          obtain ⟨yy0, yy1⟩ := set2_at w13 w10.heap.size 0 (.int .i64 0) (.string z13) _ _ y0' y1'
          clear h13 ho13 hA11 hc13 yb13 y0 y1
          have hownU : ((w13.setCell ⟨w10.heap.size, 0, none⟩ (.int .i64 0)).setCell ⟨w10.heap.size, 1, none⟩ (.string z13)).ownsRow w9.heap.size 42 2 u8 rs.length (resCells rs) := own_setNe (own_setNe HO13.out (fun e => HYB.out _ e rfl)) (fun e => HYB.out _ e rfl)
          have HRU : Hid (RdTo ((w13.setCell ⟨w10.heap.size, 0, none⟩ (.int .i64 0)).setCell ⟨w10.heap.size, 1, none⟩ (.string z13)) (w.heap.size + 1) (127 + 10 * rs.length + 10)) := rd_set1 (rd_set1 (H13.out.mono (by omega)) (by omega) _ _) (by omega) _ _
          have HKU : Hid (Kp w9.heap.size (w.heap.size + 1) w9 ((w13.setCell ⟨w10.heap.size, 0, none⟩ (.int .i64 0)).setCell ⟨w10.heap.size, 1, none⟩ (.string z13))) := HK13.out.belowB (((Below.refl w9.heap.size _).setCell (by show w9.heap.size ≤ w10.heap.size; omega) _).setCell (by show w9.heap.size ≤ w10.heap.size; omega) _)
          have hzU : w9.heap.size ≤ ((w13.setCell ⟨w10.heap.size, 0, none⟩ (.int .i64 0)).setCell ⟨w10.heap.size, 1, none⟩ (.string z13)).heap.size := by first | omega | (simp; omega)
          go_wp2_with (at_builtin; refine wpList_append_own _ rfl _ _ 38 rfl w9.heap.size 42 j0 (.agg #[.int .i64 0, .string ⟨#[]⟩]) 2 24 Tryd.underlying38 hi hz0 hz1 hz2 rfl (by decide) _ _ _ rfl (hownU.alloc _) ⟨w13.heap.size, 0, none⟩ 1 1 [_, _] rfl rfl (row2g (by simp) _ _ _) (by intro u hu; simp at hu; rcases hu with rfl | rfl <;> rfl) (by unfold maxLen; omega) (by omega) (by first | (simp; done) | (simp at hzU ⊢; omega)) ?_; intro v' wF hownF hgrow _; have HBL : Hid (Below w9.heap.size ((w13.setCell ⟨w10.heap.size, 0, none⟩ (.int .i64 0)).setCell ⟨w10.heap.size, 1, none⟩ (.string z13)) wF) := ((Below.refl _ _).alloc hzU _).grown hgrow (by first | (simp; done) | (simp at hzU ⊢; omega)) (fun k hk => (hownU.lt k hk).1); clear hgrow)
          go_roundw
          case rel =>
            refine ⟨k - 1, rs ++ [⟨0, z13⟩], by go_num, by simp; omega, smallR_snoc hsm.out (by show z13.size ≤ 4021; omega), ?_, ?_, HKU.out.belowB HBL.out⟩
            · rw [resCells_snoc, List.length_append]; exact hownF
            · have e : 127 + 10 * (rs ++ [(⟨0, z13⟩ : R2)]).length = 127 + 10 * rs.length + 10 := by simp; omega
              rw [Hid, e]; exact HRU.out.laterB HBL.out (by omega)
          case measure => simp [intOf]; omega
        · obtain rfl : r11 = 1 := by omega
          have hownU : w11.ownsRow w9.heap.size 42 2 u8 rs.length (resCells rs) := HO11.out
          have HRU : Hid (RdTo w11 (w.heap.size + 1) (127 + 10 * rs.length + 10)) := H11.out.mono (by omega)
          have HKU : Hid (Kp w9.heap.size (w.heap.size + 1) w9 w11) := HK11.out
          have hzU : w9.heap.size ≤ w11.heap.size := by first | omega | (simp; omega)
          go_wp2_with (at_builtin; refine wpList_append_own _ rfl _ _ 38 rfl w9.heap.size 42 j0 (.agg #[.int .i64 0, .string ⟨#[]⟩]) 2 24 Tryd.underlying38 hi hz0 hz1 hz2 rfl (by decide) _ _ _ rfl (hownU.alloc _) ⟨w11.heap.size, 0, none⟩ 1 1 [_, _] rfl rfl (row2g (by simp) _ _ _) (by intro u hu; simp at hu; rcases hu with rfl | rfl <;> rfl) (by unfold maxLen; omega) (by omega) (by first | (simp; done) | (simp at hzU ⊢; omega)) ?_; intro v' wF hownF hgrow _; have HBL : Hid (Below w9.heap.size w11 wF) := ((Below.refl _ _).alloc hzU _).grown hgrow (by first | (simp; done) | (simp at hzU ⊢; omega)) (fun k hk => (hownU.lt k hk).1); clear hgrow)
          go_roundw
          case rel =>
            refine ⟨k - 1, rs ++ [⟨xc, xt⟩], by go_num, by simp; omega, smallR_snoc hsm.out (by show xt.size ≤ 4021; omega), ?_, ?_, HKU.out.belowB HBL.out⟩
            · rw [resCells_snoc, List.length_append]; exact hownF
            · have e : 127 + 10 * (rs ++ [(⟨xc, xt⟩ : R2)]).length = 127 + 10 * rs.length + 10 := by simp; omega
              rw [Hid, e]; exact HRU.out.laterB HBL.out (by omega)
          case measure => simp [intOf]; omega
end Go.Proofs.YtignmnbgedmfbaaDoor
