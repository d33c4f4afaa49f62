import Derived.Test.YtdcgjdgpiogdaaaGreatDoorG13
import Derived.Shelf.LaysM
import Derived.Shelf.Strings.OnBuilder
import Derived.Shelf.Strconv.Itoa3
import Derived.Test.YtdcgjdgpiogdaaaGreatDoorProg
namespace Go.Proofs.YtdcgjdgpiogdaaaGreatDoor
open Go.RowKit
set_option maxHeartbeats 1000000 in
set_option maxRecDepth 100000 in
theorem c121 (B b : Nat) (bs : List Value) (s : ByteArray) (w : World) (h : Lib.IsBuilder 153 5 B b bs w) (hlen : bs.length + s.size ≤ 140737488355328) (hBw : B ≤ w.heap.size) :
    Calls Tryz.prog 121 #[.pointer (some ⟨b, 0, none⟩), .string s] w fun e w' => e = .returned (.tuple #[.int .i64 s.size, .nilIface]) ∧ Lib.IsBuilder 153 5 B b (bs ++ Lib.strCells s) w' ∧ Below B w w' := by
  obtain ⟨i0, hi, hz0, hz1, hz2⟩ := info_parts info5
  have HI : Hid (Lib.IsBuilder 153 5 B b bs w) := h
  clear h
  go_enter Tryz.func121, Tryz.ntmps121
  go_wp2_with fail
  refine (c137 B b bs w HI.out).mono ?_
  rintro e w1 ⟨rfl, h1, hb1, hs1⟩
  obtain ⟨hB, v, hbk, hown, hne⟩ := h1
  have hB1 : B ≤ w1.heap.size := by omega
  have HBK : Hid (w1.heap[b]? = some (.cells #[.pointer (some ⟨b, 0, none⟩), v] 153 (0, 0))) := hbk
  have HNE : Hid (v.ownBlock ≠ some b) := hne
  have c1 : w1.cell? ⟨b, 1, none⟩ = some v := by rw [Lib.cell_of_heap hbk]; rfl
  clear hbk hne hs1
  go_wp2_with (at_builtin; refine Lib.wpList_append_own_string _ rfl _ _ 119 9 rfl B 5 i0 Tryz.underlying119 Tryz.underlying9 hi hz0 hz1 hz2 _ _ _ rfl hown s rfl (by unfold maxLen; omega) (by omega) hB1 ?_; intro v' w2 hown' hgrow _; have HB2 : Hid (w2.heap[b]? = some (.cells #[.pointer (some ⟨b, 0, none⟩), v] 153 (0, 0))) := app_keeps (v := v) HBK.out HNE.out hgrow; have HG : Hid (Below B w w2) := hb1.grown hgrow hB1 (fun k hk => (hown.lt k hk).1); obtain ⟨ao, cp, rfl⟩ := row_form hown'; have d1 : w2.cell? ⟨b, 1, none⟩ = some v := (by rw [Lib.cell_of_heap HB2.out]; rfl); have f1 : w2.frozen? ⟨b, 1, none⟩ = false := Lib.frozen_of_heap HB2.out 1; clear hgrow)
  go_ret2
  refine ⟨rfl, .inr ?_, ?_⟩
  · exact Lib.BuilderAt.put (T := 153) (e := 5) hB HB2.out (bs' := bs ++ Lib.strCells s) (by simpa [Lib.strCells_length] using hown') (by decide)
  · exact HG.out.setCell (p := ⟨b, 1, none⟩) hB _

set_option maxHeartbeats 2000000 in
set_option maxRecDepth 100000 in
theorem c120 (s : ByteArray) (w : World) (hs : s.size ≤ 1048700) :
    Calls Tryz.prog 120 #[.string s] w fun e w' => e = .returned (.string ⟨(quoteL s.data.toList).toArray⟩) ∧ Below w.heap.size w w' := by
  have HF : Hid (Lib.IsBuilder 153 5 w.heap.size w.heap.size [] (w.alloc (.cells #[.pointer none, .slice none 0 0] 153))) := Lib.fresh_isBuilder 153 5 w
  go_enter Tryz.func120, Tryz.ntmps120
  go_wp2_with fail
  refine (c135 w.heap.size w.heap.size [] 34 _ HF.out (by simp) (by simp)).mono ?_
  rintro e w1 ⟨rfl, h1, hb1⟩
  have hB1 : Below w.heap.size w w1 := ((Below.refl _ _).alloc (Nat.le_refl _) _).trans hb1
  have hz1 : w.heap.size + 1 ≤ w1.heap.size := by have := hb1.size; simp at this; omega
  have H1 : Hid (Lib.IsBuilder 153 5 w.heap.size w.heap.size (Lib.byteCells [34]) w1) := h1
  clear h1 hb1
  go_wp2_with fail
  go_loopw [9] (fun i wr => ∃ (k : Nat), k ≤ s.size ∧ i = .int .i64 k ∧ Hid (Lib.IsBuilder 153 5 w.heap.size w.heap.size (Lib.byteCells (34 :: (s.data.toList.take k).flatMap qb)) wr) ∧ Below w.heap.size w wr ∧ w.heap.size + 1 ≤ wr.heap.size) (fun i _ => s.size - (intOf i).toNat)
  case atStart => exact ⟨0, Nat.zero_le _, rfl, H1, hB1, hz1⟩
  case round =>
    obtain ⟨k, hk, rfl, hbl, hb, hz⟩ := hrel
    have hL : (Lib.byteCells (34 :: (s.data.toList.take k).flatMap qb)).length ≤ 3 * k + 1 := by
      have := flat_len (s.data.toList.take k)
      have h2 : (s.data.toList.take k).length ≤ k := List.length_take_le _ _
      rw [cells_len, List.length_cons]; omega
    by_cases hlt : k < s.size
    · have HS : Hid (34 :: (s.data.toList.take (k + 1)).flatMap qb = (34 :: (s.data.toList.take k).flatMap qb) ++ qb s[k]) := by rw [take_snoc s k hlt]; simp [Hid]
      generalize hl : (34 :: (s.data.toList.take k).flatMap qb : List UInt8) = l at *
      clear hl
      have hby : (s[k].toNat : Int) < 256 := by have := s[k].toNat_lt; omega
      have hand := and15 s[k]
      go_wp2_with fail
      refine (c136 s[k] wr).mono ?_
      rintro e w2 ⟨rfl, hw⟩
      obtain rfl := hw.symm
      cases hp : plainB s[k]
      · have HQ : Hid (qb s[k] = [92, hexL.getD (s[k].toNat / 16) 0, hexL.getD (s[k].toNat % 16) 0]) := by unfold qb; rw [hp]; rfl
        clear hp
        go_wp2_with fail
        refine (c135 w.heap.size w.heap.size (Lib.byteCells l) 92 _ hbl.out (by omega) (by omega)).mono ?_
        rintro e w3 ⟨rfl, h3, hb3⟩
        have H3 : Hid (Lib.IsBuilder 153 5 w.heap.size w.heap.size (Lib.byteCells l ++ [.int .u8 92]) w3) := h3
        have hB3 : Below w.heap.size w w3 := hb.trans hb3
        have hz3 : w.heap.size + 1 ≤ w3.heap.size := Nat.le_trans hz hb3.size
        clear h3 hb3
        go_wp2_with fail
        refine (c135 w.heap.size w.heap.size (Lib.byteCells l ++ [.int .u8 92]) _ _ H3.out (by simp; omega) (by omega)).mono ?_
        rintro e w4 ⟨rfl, h4, hb4⟩
        have H4 : Hid (Lib.IsBuilder 153 5 w.heap.size w.heap.size (Lib.byteCells l ++ [.int .u8 92] ++ [.int .u8 (hexL.getD (s[k].toNat / 16) 0).toNat]) w4) := by rw [← hex_get _ (by show _ < 16; omega)]; exact h4
        have hB4 : Below w.heap.size w w4 := hB3.trans hb4
        have hz4 : w.heap.size + 1 ≤ w4.heap.size := Nat.le_trans hz3 hb4.size
        clear h4 hb4
        go_wp2_with fail
        refine (c135 w.heap.size w.heap.size (Lib.byteCells l ++ [.int .u8 92] ++ [.int .u8 (hexL.getD (s[k].toNat / 16) 0).toNat]) _ _ H4.out (by simp; omega) (by omega)).mono ?_
        rintro e w5 ⟨rfl, h5, hb5⟩
        have H5 : Hid (Lib.IsBuilder 153 5 w.heap.size w.heap.size (Lib.byteCells l ++ [.int .u8 92] ++ [.int .u8 (hexL.getD (s[k].toNat / 16) 0).toNat] ++ [.int .u8 (hexL.getD (s[k].toNat % 16) 0).toNat]) w5) := by rw [← hex_get (s[k].toNat % 16) (by show _ < 16; omega)]; exact h5
        have hB5 : Below w.heap.size w w5 := hB4.trans hb5
        have hz5 : w.heap.size + 1 ≤ w5.heap.size := Nat.le_trans hz4 hb5.size
        clear h5 hb5
        go_wp2
        go_roundw
        case rel => exact ⟨k + 1, by omega, by go_num, by rw [HS.out, HQ.out, cells_snoc]; exact (by simpa [Lib.byteCells] using H5.out : Lib.IsBuilder 153 5 w.heap.size w.heap.size (Lib.byteCells l ++ Lib.byteCells [92, hexL.getD (s[k].toNat / 16) 0, hexL.getD (s[k].toNat % 16) 0]) w5), hB5, hz5⟩
        case measure => simp [intOf]; omega
      · have HQ : Hid (qb s[k] = [s[k]]) := by unfold qb; rw [hp]; rfl
        clear hp
        go_wp2_with fail
        refine (c135 w.heap.size w.heap.size (Lib.byteCells l) _ _ hbl.out (by omega) (by omega)).mono ?_
        rintro e w3 ⟨rfl, h3, hb3⟩
        have H3 : Hid (Lib.IsBuilder 153 5 w.heap.size w.heap.size (Lib.byteCells l ++ [.int .u8 s[k].toNat]) w3) := h3
        have hB3 : Below w.heap.size w w3 := hb.trans hb3
        have hz3 : w.heap.size + 1 ≤ w3.heap.size := Nat.le_trans hz hb3.size
        clear h3 hb3
        go_wp2
        go_roundw
        case rel => exact ⟨k + 1, by omega, by go_num, by rw [HS.out, HQ.out, cells_snoc]; exact H3.out, hB3, hz3⟩
        case measure => simp [intOf]; omega
    · have HT : Hid (quoteL s.data.toList = (34 :: (s.data.toList.take k).flatMap qb) ++ [34]) := by rw [List.take_of_length_le (by simp; omega)]; rfl
      generalize hl : (34 :: (s.data.toList.take k).flatMap qb : List UInt8) = l at *
      clear hl
      go_wp2_with fail
      refine (c135 w.heap.size w.heap.size (Lib.byteCells l) 34 _ hbl.out (by omega) (by omega)).mono ?_
      rintro e w3 ⟨rfl, h3, hb3⟩
      have H3 : Hid (Lib.IsBuilder 153 5 w.heap.size w.heap.size (Lib.byteCells (l ++ [34])) w3) := by rw [cells_snoc]; exact h3
      have hB3 : Below w.heap.size w w3 := hb.trans hb3
      have hz3 : w.heap.size + 1 ≤ w3.heap.size := Nat.le_trans hz hb3.size
      clear h3 hb3
      go_wp2_with fail
      refine (Tryz.Builder_String_any w.heap.size w.heap.size (l ++ [34]) _ H3.out (by omega)).mono ?_
      rintro e w4 ⟨rfl, hb4⟩
      go_wp2
      go_ret
      exact ⟨by rw [HT.out]; rfl, hB3.trans hb4⟩
theorem c120' (s : ByteArray) (w : World) (hs : s.size ≤ 1048700) :
    Calls Tryz.prog 120 #[.string s] w fun e w' => e = .returned (.string (ofL (quoteL s.data.toList))) ∧ Below w.heap.size w w' := c120 s w hs

set_option maxHeartbeats 1000000 in
theorem c100 (x : M3) (w : World) (hok : okM x = true) :
    Calls Tryz.prog 100 #[.agg #[.string x.nm, .string x.tl, .string x.ar]] w fun e w' => e = .returned (.string (ofL (bodyL x))) ∧ Below w.heap.size w w' := by
  obtain ⟨hl1, hl2, hl3⟩ : x.nm.size ≤ 20 ∧ x.tl.size ≤ 20 ∧ x.ar.size ≤ 300 := by
    simp [okM, nameOk] at hok
    exact ⟨hok.1.1.1.2, hok.1.2.1.2, by omega⟩
  have s3 : (ofL (quoteL x.ar.data.toList)).size ≤ 902 := by
    have := quote_len x.ar.data.toList
    have e : x.ar.data.toList.length = x.ar.size := by simp
    rw [ofL_size]; omega
  have HV : Hid (ofL (bodyL x) = x.nm ++ (⟨#[32]⟩ : ByteArray) ++ x.tl ++ (⟨#[32]⟩ : ByteArray) ++ ofL (quoteL x.ar.data.toList)) := by
    show ofL (bodyL x) = _
    rw [one_ofL, ← ofL_data x.nm, ← ofL_data x.tl]
    simp only [cat_ofL]
    rfl
  clear hok
  have k1 : ¬ 9223372036854775807 < x.nm.size + 1 := by omega
  have k1' : ¬ 9223372036854775807 ≤ x.nm.size := by omega
  have k2 : ¬ 9223372036854775807 < x.nm.size + 1 + x.tl.size := by omega
  have k3 : ¬ 9223372036854775807 < x.nm.size + 1 + x.tl.size + 1 := by omega
  have k3' : ¬ 9223372036854775807 ≤ x.nm.size + 1 + x.tl.size := by omega
  have k4 : ¬ 9223372036854775807 < x.nm.size + 1 + x.tl.size + 1 + (ofL (quoteL x.ar.data.toList)).size := by omega
  go_enter Tryz.func100, Tryz.ntmps100
  go_wp2_with fail
  have hB0 : Below w.heap.size w (w.alloc (.cells #[.string x.nm, .string x.tl, .string x.ar] 35)) := (Below.refl _ _).alloc (Nat.le_refl _) _
  have f0 : (w.alloc (.cells #[.string x.nm, .string x.tl, .string x.ar] 35)).cell? ⟨w.heap.size, 0, none⟩ = some (.string x.nm) := by simp
  have f1 : (w.alloc (.cells #[.string x.nm, .string x.tl, .string x.ar] 35)).cell? ⟨w.heap.size, 1, none⟩ = some (.string x.tl) := by simp
  have f2 : (w.alloc (.cells #[.string x.nm, .string x.tl, .string x.ar] 35)).cell? ⟨w.heap.size, 2, none⟩ = some (.string x.ar) := by simp
  have hz : w.heap.size < (w.alloc (.cells #[.string x.nm, .string x.tl, .string x.ar] 35)).heap.size := by simp
  generalize (w.alloc (.cells #[.string x.nm, .string x.tl, .string x.ar] 35)) = W at *
  go_region_held3 (fun u => u.cell? ⟨w.heap.size, 0, none⟩ = some (.string x.nm) ∧ u.cell? ⟨w.heap.size, 1, none⟩ = some (.string x.tl) ∧ u.cell? ⟨w.heap.size, 2, none⟩ = some (.string x.ar)) (go_keep) (first | (go_at_call 120; refine (c120' x.ar _ (by omega)).mono ?_; rintro e w1 ⟨rfl, hb1⟩; have HB1 : Hid (Below w.heap.size w w1) := hB0.trans (((Below.refl _ _).drew.trans hb1).mono (Nat.le_of_lt hz)); have e0 := (hb1.cell (p := ⟨w.heap.size, 0, none⟩) (by simpa using hz)).trans f0; have e1 := (hb1.cell (p := ⟨w.heap.size, 1, none⟩) (by simpa using hz)).trans f1; have e2 := (hb1.cell (p := ⟨w.heap.size, 2, none⟩) (by simpa using hz)).trans f2))
  all_goals go_wp2
  all_goals go_ret
  all_goals exact ⟨ret_str HV.out.symm, HB1.out⟩

def lookW (h : Bool) : ByteArray := if h then ⟨#[104, 97, 115]⟩ else ⟨#[97, 115, 107]⟩
theorem c109 (h : Bool) (w : World) :
    Calls Tryz.prog 109 #[.bool h] w fun e w' => e = .returned (.string (lookW h)) ∧ w' = w := by
  cases h
  all_goals
    go_enter Tryz.func109, Tryz.ntmps109
    go_wp2
    go_ret
    exact ⟨rfl, rfl⟩
end Go.Proofs.YtdcgjdgpiogdaaaGreatDoor
namespace Go.Proofs
open Go.Shelf
def Tryz.lays156_ren : Go.Shelf.Ren := ⟨fun | 156 => 119 | 165 => 134 | 166 => 121 | 169 => 122 | 240 => 137 | 241 => 148 | 276 => 149 | 277 => 160 | n => n, fun | 31 => 80 | 9 => 9 | 3 => 3 | 4 => 4 | 0 => 0 | 20 => 20 | 72 => 153 | 76 => 156 | 70 => 151 | 37 => 119 | 75 => 155 | 127 => 172 | 164 => 179 | 5 => 5 | 80 => 158 | n => n, fun | n => n⟩
theorem Tryz.lays156 : Go.Proofs.Lays.n156 Tryz.prog Tryz.lays156_ren := {
  mixed := by kernel_rfl
  f156 := Tryz.func119.trans (congrArg some (by kernel_rfl))
  f165 := Tryz.func134.trans (congrArg some (by kernel_rfl))
  f166 := Tryz.func121.trans (congrArg some (by kernel_rfl))
  f169 := Tryz.func122.trans (congrArg some (by kernel_rfl))
  f240 := Tryz.func137.trans (congrArg some (by kernel_rfl))
  f241 := Tryz.func148.trans (congrArg some (by kernel_rfl))
  f276 := Tryz.func149.trans (congrArg some (by kernel_rfl))
  f277 := Tryz.func160.trans (congrArg some (by kernel_rfl))
  t0 := Tryz.underlying0
  a0 := Tryz.isAgg0
  z0 := Tryz.sizeOf0
  v0 := Tryz.zeroValue0
  t3 := Tryz.underlying3
  a3 := Tryz.isAgg3
  z3 := Tryz.sizeOf3
  v3 := Tryz.zeroValue3
  t4 := Tryz.underlying4
  a4 := Tryz.isAgg4
  z4 := Tryz.sizeOf4
  v4 := Tryz.zeroValue4
  t9 := Tryz.underlying9
  a9 := Tryz.isAgg9
  z9 := Tryz.sizeOf9
  v9 := Tryz.zeroValue9
  t20 := Tryz.underlying20
  a20 := Tryz.isAgg20
  z20 := Tryz.sizeOf20
  v20 := Tryz.zeroValue20
  t31 := Tryz.underlying80
  a31 := Tryz.isAgg80
  z31 := Tryz.sizeOf80
  v31 := Tryz.zeroValue80
  t37 := Tryz.underlying119
  a37 := Tryz.isAgg119
  z37 := Tryz.sizeOf119
  v37 := Tryz.zeroValue119
  t70 := Tryz.underlying151
  a70 := Tryz.isAgg151
  z70 := Tryz.sizeOf151
  v70 := Tryz.zeroValue151
  t72 := Tryz.underlying153
  a72 := Tryz.isAgg153
  z72 := Tryz.sizeOf153
  v72 := Tryz.zeroValue153
  t75 := Tryz.underlying155
  a75 := Tryz.isAgg155
  z75 := Tryz.sizeOf155
  v75 := Tryz.zeroValue155
  t76 := Tryz.underlying156
  a76 := Tryz.isAgg156
  z76 := Tryz.sizeOf156
  v76 := Tryz.zeroValue156
  t127 := Tryz.underlying172
  a127 := Tryz.isAgg172
  z127 := Tryz.sizeOf172
  v127 := Tryz.zeroValue172
  t164 := Tryz.underlying179
  a164 := Tryz.isAgg179
  z164 := Tryz.sizeOf179
  v164 := Tryz.zeroValue179 }
theorem Tryz.Builder_Extra_156 : Builder.Extra Tryz.prog Tryz.lays156_ren := {
  sizeBuilder := by kernel_rfl
  liesBuilder := by kernel_rfl
  t5 := Tryz.underlying5
  a5 := Tryz.isAgg5
  z5 := Tryz.sizeOf5
  v5 := Tryz.zeroValue5
  infoByte := by kernel_rfl
  cellsByte := by kernel_rfl
  sizeByte := by kernel_rfl
  neB5 := by decide }
open Go.RowKit in
/-- No element: the empty string; the world is as it was. (Whatever the slice's address and capacity: a nil slice too.) (LAID: no walk: one application.) -/
theorem Tryz.strings_Join_none (a : Option Addr) (c : Nat) (sep : ByteArray) (w : World) :
    Calls Tryz.prog 119 #[.slice a 0 c, .string sep] w fun e w' => e = .returned (.string ⟨#[]⟩) ∧ w' = w := Any.strings_Join_none Tryz.lays156 Tryz.Builder_Extra_156 a c sep w
open Go.RowKit in
/-- strings.Join: "Join concatenates the elements of its first argument to create a single string. The separator string sep is placed between elements in the resulting string.": HOWEVER MANY ELEMENTS. Below the heap's end the world is as it was. (LAID: no walk: one application.) -/
theorem Tryz.strings_Join (bk o c : Nat) (xs : List ByteArray) (sep : ByteArray) (w : World) (hcells : ∀ (j : Nat) x, xs[j]? = some x → w.cell? ⟨bk, o + j, none⟩ = some (.string x)) (hbk : bk < w.heap.size) (hN : xs.length ≤ 140737488355328) (hcap : xs.length ≤ c) (hlen : (Lib.join (xs.map (·.data.toList)) sep.data.toList).length ≤ 140737488355328) :
    Calls Tryz.prog 119 #[.slice (some ⟨bk, o, none⟩) xs.length c, .string sep] w fun e w' => e = .returned (.string ⟨(Lib.join (xs.map (·.data.toList)) sep.data.toList).toArray⟩) ∧ Below w.heap.size w w' := Any.strings_Join Tryz.lays156 Tryz.Builder_Extra_156 bk o c xs sep w hcells hbk hN hcap hlen
def Tryz.laysM171_ren : Go.Shelf.Ren := ⟨fun | 171 => 118 | 243 => 133 | 246 => 147 | 283 => 156 | 284 => 157 | 285 => 158 | 286 => 159 | 129 => 163 | 317 => 162 | 318 => 164 | 319 => 165 | 320 => 166 | 337 => 167 | 338 => 168 | n => n, fun | 3 => 3 | 9 => 9 | 2 => 2 | 4 => 4 | 171 => 186 | 0 => 0 | 53 => 112 | 37 => 119 | 5 => 5 | 173 => 189 | 212 => 193 | 51 => 183 | 20 => 20 | 213 => 194 | 46 => 167 | 232 => 201 | 233 => 202 | n => n, fun | 17 => 1 | 18 => 4 | 19 => 5 | n => n⟩
theorem Tryz.laysM171 : Go.Proofs.LaysM.n171 Tryz.prog Tryz.laysM171_ren := {
  mixed := by kernel_rfl
  f129 := Tryz.func163.trans (congrArg some (by kernel_rfl))
  f171 := Tryz.func118.trans (congrArg some (by kernel_rfl))
  f243 := Tryz.func133.trans (congrArg some (by kernel_rfl))
  f246 := Tryz.func147.trans (congrArg some (by kernel_rfl))
  f283 := Tryz.func156.trans (congrArg some (by kernel_rfl))
  f284 := Tryz.func157.trans (congrArg some (by kernel_rfl))
  f285 := Tryz.func158.trans (congrArg some (by kernel_rfl))
  f286 := Tryz.func159.trans (congrArg some (by kernel_rfl))
  f317 := Tryz.func162.trans (congrArg some (by kernel_rfl))
  f318 := Tryz.func164.trans (congrArg some (by kernel_rfl))
  f319 := Tryz.func165.trans (congrArg some (by kernel_rfl))
  f320 := Tryz.func166.trans (congrArg some (by kernel_rfl))
  f337 := Tryz.func167.trans (congrArg some (by kernel_rfl))
  f338 := Tryz.func168.trans (congrArg some (by kernel_rfl))
  t0 := Tryz.underlying0
  a0 := Tryz.isAgg0
  z0 := Tryz.sizeOf0
  v0 := Tryz.zeroValue0
  t2 := Tryz.underlying2
  a2 := Tryz.isAgg2
  z2 := Tryz.sizeOf2
  v2 := Tryz.zeroValue2
  t3 := Tryz.underlying3
  a3 := Tryz.isAgg3
  z3 := Tryz.sizeOf3
  v3 := Tryz.zeroValue3
  t4 := Tryz.underlying4
  a4 := Tryz.isAgg4
  z4 := Tryz.sizeOf4
  v4 := Tryz.zeroValue4
  t5 := Tryz.underlying5
  a5 := Tryz.isAgg5
  z5 := Tryz.sizeOf5
  v5 := Tryz.zeroValue5
  t9 := Tryz.underlying9
  a9 := Tryz.isAgg9
  z9 := Tryz.sizeOf9
  v9 := Tryz.zeroValue9
  t20 := Tryz.underlying20
  a20 := Tryz.isAgg20
  z20 := Tryz.sizeOf20
  v20 := Tryz.zeroValue20
  t37 := Tryz.underlying119
  a37 := Tryz.isAgg119
  z37 := Tryz.sizeOf119
  v37 := Tryz.zeroValue119
  t46 := Tryz.underlying167
  a46 := Tryz.isAgg167
  z46 := Tryz.sizeOf167
  v46 := Tryz.zeroValue167
  t51 := Tryz.underlying183
  a51 := Tryz.isAgg183
  z51 := Tryz.sizeOf183
  v51 := Tryz.zeroValue183
  t53 := Tryz.underlying112
  a53 := Tryz.isAgg112
  z53 := Tryz.sizeOf112
  v53 := Tryz.zeroValue112
  t171 := Tryz.underlying186
  a171 := Tryz.isAgg186
  z171 := Tryz.sizeOf186
  v171 := Tryz.zeroValue186
  t173 := Tryz.underlying189
  a173 := Tryz.isAgg189
  z173 := Tryz.sizeOf189
  v173 := Tryz.zeroValue189
  t212 := Tryz.underlying193
  a212 := Tryz.isAgg193
  z212 := Tryz.sizeOf193
  v212 := Tryz.zeroValue193
  t213 := Tryz.underlying194
  a213 := Tryz.isAgg194
  z213 := Tryz.sizeOf194
  t232 := Tryz.underlying201
  a232 := Tryz.isAgg201
  z232 := Tryz.sizeOf201
  v232 := Tryz.zeroValue201
  t233 := Tryz.underlying202
  a233 := Tryz.isAgg202
  z233 := Tryz.sizeOf202
  v233 := Tryz.zeroValue202
  g17 := by kernel_rfl
  g18 := by kernel_rfl
  g19 := by kernel_rfl
  i0 := by kernel_rfl
  i2 := by kernel_rfl
  i3 := by kernel_rfl
  i4 := by kernel_rfl
  i5 := by kernel_rfl
  i9 := by kernel_rfl
  i20 := by kernel_rfl
  i37 := by kernel_rfl
  i46 := by kernel_rfl
  i51 := by kernel_rfl
  i53 := by kernel_rfl
  i171 := by kernel_rfl
  i173 := by kernel_rfl
  i212 := by kernel_rfl
  i232 := by kernel_rfl
  i233 := by kernel_rfl
  m17 := by kernel_rfl
  m18 := by kernel_rfl
  m19 := by kernel_rfl }
open Go.RowKit Go.Sort Go.Lib in
/-- strconv.Itoa: "Itoa is equivalent to FormatInt(int64(i), 10).": i's DECIMAL NUMERAL ('Lib.itoa': a '-' where i is negative, then the digits), FOR EVERY int. The world behind the call: the world before it, new blocks behind the heap (the library's 'var a [24]byte'), draws. (LAID: no walk: one application.) -/
theorem Tryz.strconv_Itoa (n : Int) (h0 : -9223372036854775808 ≤ n) (h1 : n ≤ 9223372036854775807) (w : World) (htab : Lib.TabIs Tryz.prog w "internal/strconv.uint64pow10" .u64 Lib.pow10Tab) :
    Calls Tryz.prog 118 #[.int .i64 n] w fun e w' => e = .returned (.string ⟨(Lib.itoa n).toArray⟩) ∧ ∃ k os, w' = grow (w.drewN k) os := Any.strconv_Itoa Tryz.laysM171 n h0 h1 w htab
def Tryz.lays171_ren : Go.Shelf.Ren := ⟨fun | 171 => 118 | 243 => 133 | 246 => 147 | 283 => 156 | 284 => 157 | 285 => 158 | 286 => 159 | 129 => 163 | 317 => 162 | 318 => 164 | 319 => 165 | 320 => 166 | 337 => 167 | 338 => 168 | n => n, fun | 3 => 3 | 9 => 9 | 2 => 2 | 4 => 4 | 171 => 186 | 0 => 0 | 53 => 112 | 37 => 119 | 5 => 5 | 173 => 189 | 212 => 193 | 51 => 183 | 20 => 20 | 213 => 194 | 46 => 167 | 232 => 201 | 233 => 202 | n => n, fun | 17 => 1 | 18 => 4 | 19 => 5 | n => n⟩
theorem Tryz.lays171 : Go.Proofs.Lays.n171 Tryz.prog Tryz.lays171_ren := {
  mixed := by kernel_rfl
  f129 := Tryz.func163.trans (congrArg some (by kernel_rfl))
  f171 := Tryz.func118.trans (congrArg some (by kernel_rfl))
  f243 := Tryz.func133.trans (congrArg some (by kernel_rfl))
  f246 := Tryz.func147.trans (congrArg some (by kernel_rfl))
  f283 := Tryz.func156.trans (congrArg some (by kernel_rfl))
  f284 := Tryz.func157.trans (congrArg some (by kernel_rfl))
  f285 := Tryz.func158.trans (congrArg some (by kernel_rfl))
  f286 := Tryz.func159.trans (congrArg some (by kernel_rfl))
  f317 := Tryz.func162.trans (congrArg some (by kernel_rfl))
  f318 := Tryz.func164.trans (congrArg some (by kernel_rfl))
  f319 := Tryz.func165.trans (congrArg some (by kernel_rfl))
  f320 := Tryz.func166.trans (congrArg some (by kernel_rfl))
  f337 := Tryz.func167.trans (congrArg some (by kernel_rfl))
  f338 := Tryz.func168.trans (congrArg some (by kernel_rfl))
  t0 := Tryz.underlying0
  a0 := Tryz.isAgg0
  z0 := Tryz.sizeOf0
  v0 := Tryz.zeroValue0
  t2 := Tryz.underlying2
  a2 := Tryz.isAgg2
  z2 := Tryz.sizeOf2
  v2 := Tryz.zeroValue2
  t3 := Tryz.underlying3
  a3 := Tryz.isAgg3
  z3 := Tryz.sizeOf3
  v3 := Tryz.zeroValue3
  t4 := Tryz.underlying4
  a4 := Tryz.isAgg4
  z4 := Tryz.sizeOf4
  v4 := Tryz.zeroValue4
  t5 := Tryz.underlying5
  a5 := Tryz.isAgg5
  z5 := Tryz.sizeOf5
  v5 := Tryz.zeroValue5
  t9 := Tryz.underlying9
  a9 := Tryz.isAgg9
  z9 := Tryz.sizeOf9
  v9 := Tryz.zeroValue9
  t20 := Tryz.underlying20
  a20 := Tryz.isAgg20
  z20 := Tryz.sizeOf20
  v20 := Tryz.zeroValue20
  t37 := Tryz.underlying119
  a37 := Tryz.isAgg119
  z37 := Tryz.sizeOf119
  v37 := Tryz.zeroValue119
  t46 := Tryz.underlying167
  a46 := Tryz.isAgg167
  z46 := Tryz.sizeOf167
  v46 := Tryz.zeroValue167
  t51 := Tryz.underlying183
  a51 := Tryz.isAgg183
  z51 := Tryz.sizeOf183
  v51 := Tryz.zeroValue183
  t53 := Tryz.underlying112
  a53 := Tryz.isAgg112
  z53 := Tryz.sizeOf112
  v53 := Tryz.zeroValue112
  t171 := Tryz.underlying186
  a171 := Tryz.isAgg186
  z171 := Tryz.sizeOf186
  v171 := Tryz.zeroValue186
  t173 := Tryz.underlying189
  a173 := Tryz.isAgg189
  z173 := Tryz.sizeOf189
  v173 := Tryz.zeroValue189
  t212 := Tryz.underlying193
  a212 := Tryz.isAgg193
  z212 := Tryz.sizeOf193
  v212 := Tryz.zeroValue193
  t213 := Tryz.underlying194
  a213 := Tryz.isAgg194
  z213 := Tryz.sizeOf194
  t232 := Tryz.underlying201
  a232 := Tryz.isAgg201
  z232 := Tryz.sizeOf201
  v232 := Tryz.zeroValue201
  t233 := Tryz.underlying202
  a233 := Tryz.isAgg202
  z233 := Tryz.sizeOf202
  v233 := Tryz.zeroValue202
  g17 := by kernel_rfl
  g18 := by kernel_rfl
  g19 := by kernel_rfl }
open Go.RowKit Go.Sort Go.Lib in
/-- THE ROAD WITHOUT THE TABLE: 0 <= i < 100: NO PREMISE ON THE WORLD, AND THE WORLD IS AS IT WAS: a row that keeps its argument in that range need list no table ('laid = []'). (LAID: no walk: one application.) -/
theorem Tryz.strconv_Itoa_small (i : Nat) (hi : i < 100) (w : World) :
    Calls Tryz.prog 118 #[.int .i64 i] w fun e w' => e = .returned (.string ⟨(Lib.decDigits i).toArray⟩) ∧ w' = w := Any.strconv_Itoa_small Tryz.lays171 i hi w
end Go.Proofs
