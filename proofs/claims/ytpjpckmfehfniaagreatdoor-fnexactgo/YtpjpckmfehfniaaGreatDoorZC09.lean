import Derived.Shelf.Strings.Split
import Derived.Shelf.Strings.Cut
import Derived.Shelf.Small.Strs
import Derived.Test.YtpjpckmfehfniaaGreatDoorProg
import Derived.Test.YtpjpckmfehfniaaGreatDoorZC05
import Derived.Lib.IndexLaws
namespace Go.Proofs
open Go.Shelf
def Tryz.lays137_ren : Go.Shelf.Ren := ⟨fun | 137 => 201 | 217 => 193 | 266 => 212 | n => n, fun | 9 => 9 | 5 => 5 | 3 => 3 | n => n, fun | n => n⟩
theorem Tryz.lays137 : Go.Proofs.Lays.n137 Tryz.prog Tryz.lays137_ren := {
  mixed := by kernel_rfl
  f137 := Tryz.func201.trans (congrArg some (by kernel_rfl))
  f217 := Tryz.func193.trans (congrArg some (by kernel_rfl))
  f266 := Tryz.func212.trans (congrArg some (by kernel_rfl))
  t3 := Tryz.underlying3
  a3 := Tryz.isAgg3
  z3 := Tryz.sizeOf3
  v3 := Tryz.zeroValue3
  t5 := Tryz.underlying5
  a5 := Tryz.isAgg5
  z5 := Tryz.sizeOf5
  v5 := Tryz.zeroValue5
  t9 := Tryz.underlying9
  a9 := Tryz.isAgg9
  z9 := Tryz.sizeOf9
  v9 := Tryz.zeroValue9 }
theorem Tryz.strings_IndexByte (s : ByteArray) (c : Int) (w : World) :
    Calls Tryz.prog 201 #[.string s, .int .u8 c] w fun e w' => e = .returned (.int .i64 (Lib.indexByte s.data.toList c.toNat.toUInt8)) ∧ w' = w := Any.strings_IndexByte Tryz.lays137 s c w
def Tryz.lays145_ren : Go.Shelf.Ren := ⟨fun | 145 => 121 | 220 => 135 | 219 => 166 | 217 => 193 | 225 => 194 | 224 => 195 | 267 => 196 | 266 => 212 | 314 => 213 | n => n, fun | 9 => 9 | 4 => 4 | 59 => 166 | 3 => 3 | 5 => 5 | 46 => 181 | 146 => 251 | 51 => 250 | n => n, fun | 1 => 1 | n => n⟩
theorem Tryz.lays145 : Go.Proofs.Lays.n145 Tryz.prog Tryz.lays145_ren := {
  mixed := by kernel_rfl
  f145 := Tryz.func121.trans (congrArg some (by kernel_rfl))
  f217 := Tryz.func193.trans (congrArg some (by kernel_rfl))
  f219 := Tryz.func166.trans (congrArg some (by kernel_rfl))
  f220 := Tryz.func135.trans (congrArg some (by kernel_rfl))
  f224 := Tryz.func195.trans (congrArg some (by kernel_rfl))
  f225 := Tryz.func194.trans (congrArg some (by kernel_rfl))
  f266 := Tryz.func212.trans (congrArg some (by kernel_rfl))
  f267 := Tryz.func196.trans (congrArg some (by kernel_rfl))
  f314 := Tryz.func213.trans (congrArg some (by kernel_rfl))
  t3 := Tryz.underlying3
  a3 := Tryz.isAgg3
  z3 := Tryz.sizeOf3
  v3 := Tryz.zeroValue3
  t4 := Tryz.underlying4
  a4 := Tryz.isAgg4
  z4 := Tryz.sizeOf4
  v4 := Tryz.zeroValue4
  t5 := Tryz.underlying5
  a5 := Tryz.isAgg5
  z5 := Tryz.sizeOf5
  v5 := Tryz.zeroValue5
  t9 := Tryz.underlying9
  a9 := Tryz.isAgg9
  z9 := Tryz.sizeOf9
  v9 := Tryz.zeroValue9
  t46 := Tryz.underlying181
  a46 := Tryz.isAgg181
  z46 := Tryz.sizeOf181
  v46 := Tryz.zeroValue181
  t51 := Tryz.underlying250
  a51 := Tryz.isAgg250
  z51 := Tryz.sizeOf250
  v51 := Tryz.zeroValue250
  t59 := Tryz.underlying166
  a59 := Tryz.isAgg166
  z59 := Tryz.sizeOf166
  v59 := Tryz.zeroValue166
  t146 := Tryz.underlying251
  a146 := Tryz.isAgg251
  z146 := Tryz.sizeOf251
  v146 := Tryz.zeroValue251
  g1 := by kernel_rfl }
theorem Tryz.strings_Cut (s sep : ByteArray) (m : Int) (w : World) (hs : s.size < 4294967281) (hm : w.cell? ⟨1, 0, none⟩ = some (.int .i64 m)) :
    Calls Tryz.prog 121 #[.string s, .string sep] w fun e w' => e = .returned (.tuple #[.string ⟨(Lib.cut s.data.toList sep.data.toList).1.toArray⟩, .string ⟨(Lib.cut s.data.toList sep.data.toList).2.1.toArray⟩, .bool (Lib.cut s.data.toList sep.data.toList).2.2]) ∧ ∃ n, w' = w.drewN n := Any.strings_Cut Tryz.lays145 s sep m w hs hm
def Tryz.lays147_ren : Go.Shelf.Ren := ⟨fun | 147 => 137 | 221 => 167 | 268 => 197 | 138 => 198 | 143 => 199 | 195 => 214 | 197 => 215 | 218 => 216 | 219 => 166 | 260 => 224 | 217 => 193 | 225 => 194 | 224 => 195 | 267 => 196 | 266 => 212 | 314 => 213 | n => n, fun | 9 => 9 | 3 => 3 | 31 => 124 | 4 => 4 | 0 => 0 | 105 => 253 | 21 => 21 | 5 => 5 | 46 => 181 | 119 => 269 | 139 => 272 | 138 => 271 | 146 => 251 | 51 => 250 | n => n, fun | 1 => 1 | 3 => 3 | 4 => 4 | n => n⟩
theorem Tryz.lays147 : Go.Proofs.Lays.n147 Tryz.prog Tryz.lays147_ren := {
  mixed := by kernel_rfl
  f138 := Tryz.func198.trans (congrArg some (by kernel_rfl))
  f143 := Tryz.func199.trans (congrArg some (by kernel_rfl))
  f147 := Tryz.func137.trans (congrArg some (by kernel_rfl))
  f195 := Tryz.func214.trans (congrArg some (by kernel_rfl))
  f197 := Tryz.func215.trans (congrArg some (by kernel_rfl))
  f217 := Tryz.func193.trans (congrArg some (by kernel_rfl))
  f218 := Tryz.func216.trans (congrArg some (by kernel_rfl))
  f219 := Tryz.func166.trans (congrArg some (by kernel_rfl))
  f221 := Tryz.func167.trans (congrArg some (by kernel_rfl))
  f224 := Tryz.func195.trans (congrArg some (by kernel_rfl))
  f225 := Tryz.func194.trans (congrArg some (by kernel_rfl))
  f260 := Tryz.func224.trans (congrArg some (by kernel_rfl))
  f266 := Tryz.func212.trans (congrArg some (by kernel_rfl))
  f267 := Tryz.func196.trans (congrArg some (by kernel_rfl))
  f268 := Tryz.func197.trans (congrArg some (by kernel_rfl))
  f314 := Tryz.func213.trans (congrArg some (by kernel_rfl))
  t0 := Tryz.underlying0
  a0 := Tryz.isAgg0
  z0 := Tryz.sizeOf0
  v0 := Tryz.zeroValue0
  t3 := Tryz.underlying3
  a3 := Tryz.isAgg3
  z3 := Tryz.sizeOf3
  v3 := Tryz.zeroValue3
  t4 := Tryz.underlying4
  a4 := Tryz.isAgg4
  z4 := Tryz.sizeOf4
  v4 := Tryz.zeroValue4
  t5 := Tryz.underlying5
  a5 := Tryz.isAgg5
  z5 := Tryz.sizeOf5
  v5 := Tryz.zeroValue5
  t9 := Tryz.underlying9
  a9 := Tryz.isAgg9
  z9 := Tryz.sizeOf9
  v9 := Tryz.zeroValue9
  t21 := Tryz.underlying21
  a21 := Tryz.isAgg21
  z21 := Tryz.sizeOf21
  v21 := Tryz.zeroValue21
  t31 := Tryz.underlying124
  a31 := Tryz.isAgg124
  z31 := Tryz.sizeOf124
  v31 := Tryz.zeroValue124
  t46 := Tryz.underlying181
  a46 := Tryz.isAgg181
  z46 := Tryz.sizeOf181
  v46 := Tryz.zeroValue181
  t51 := Tryz.underlying250
  a51 := Tryz.isAgg250
  z51 := Tryz.sizeOf250
  v51 := Tryz.zeroValue250
  t105 := Tryz.underlying253
  a105 := Tryz.isAgg253
  z105 := Tryz.sizeOf253
  v105 := Tryz.zeroValue253
  t119 := Tryz.underlying269
  a119 := Tryz.isAgg269
  z119 := Tryz.sizeOf269
  t138 := Tryz.underlying271
  a138 := Tryz.isAgg271
  z138 := Tryz.sizeOf271
  v138 := Tryz.zeroValue271
  t139 := Tryz.underlying272
  a139 := Tryz.isAgg272
  z139 := Tryz.sizeOf272
  v139 := Tryz.zeroValue272
  t146 := Tryz.underlying251
  a146 := Tryz.isAgg251
  z146 := Tryz.sizeOf251
  v146 := Tryz.zeroValue251
  g1 := by kernel_rfl
  g3 := by kernel_rfl
  g4 := by kernel_rfl }
theorem Tryz.strings_SplitN (s sep : ByteArray) (n : Nat) (m : Int) (w : World) (hs : s.size < 4294967281) (hm : w.cell? ⟨1, 0, none⟩ = some (.int .i64 m)) (h1 : 1 ≤ sep.size) (hn : 1 ≤ n) (hn63 : n ≤ 9223372036854775807) :
    Calls Tryz.prog 137 #[.string s, .string sep, .int .i64 n] w fun e w' =>
      e = .returned (.slice (some ⟨w.heap.size, 0, none⟩) (Lib.splitB sep 0 (min n (s.size + 1) - 1) s).length (min n (s.size + 1))) ∧ w' = w.alloc (.cells (Lib.cellsOf (Lib.splitB sep 0 (min n (s.size + 1) - 1) s) (min n (s.size + 1))) 9) := Any.strings_SplitN Tryz.lays147 (by kernel_rfl) s sep n m w hs hm h1 hn hn63
def Tryz.lays146_ren : Go.Shelf.Ren := ⟨fun | 146 => 187 | 221 => 167 | 268 => 197 | 138 => 198 | 143 => 199 | 195 => 214 | 197 => 215 | 218 => 216 | 219 => 166 | 260 => 224 | 217 => 193 | 225 => 194 | 224 => 195 | 267 => 196 | 266 => 212 | 314 => 213 | n => n, fun | 9 => 9 | 31 => 124 | 3 => 3 | 4 => 4 | 0 => 0 | 105 => 253 | 21 => 21 | 5 => 5 | 46 => 181 | 119 => 269 | 139 => 272 | 138 => 271 | 146 => 251 | 51 => 250 | n => n, fun | 1 => 1 | 3 => 3 | 4 => 4 | n => n⟩
theorem Tryz.lays146 : Go.Proofs.Lays.n146 Tryz.prog Tryz.lays146_ren := {
  mixed := by kernel_rfl
  f138 := Tryz.func198.trans (congrArg some (by kernel_rfl))
  f143 := Tryz.func199.trans (congrArg some (by kernel_rfl))
  f146 := Tryz.func187.trans (congrArg some (by kernel_rfl))
  f195 := Tryz.func214.trans (congrArg some (by kernel_rfl))
  f197 := Tryz.func215.trans (congrArg some (by kernel_rfl))
  f217 := Tryz.func193.trans (congrArg some (by kernel_rfl))
  f218 := Tryz.func216.trans (congrArg some (by kernel_rfl))
  f219 := Tryz.func166.trans (congrArg some (by kernel_rfl))
  f221 := Tryz.func167.trans (congrArg some (by kernel_rfl))
  f224 := Tryz.func195.trans (congrArg some (by kernel_rfl))
  f225 := Tryz.func194.trans (congrArg some (by kernel_rfl))
  f260 := Tryz.func224.trans (congrArg some (by kernel_rfl))
  f266 := Tryz.func212.trans (congrArg some (by kernel_rfl))
  f267 := Tryz.func196.trans (congrArg some (by kernel_rfl))
  f268 := Tryz.func197.trans (congrArg some (by kernel_rfl))
  f314 := Tryz.func213.trans (congrArg some (by kernel_rfl))
  t0 := Tryz.underlying0
  a0 := Tryz.isAgg0
  z0 := Tryz.sizeOf0
  v0 := Tryz.zeroValue0
  t3 := Tryz.underlying3
  a3 := Tryz.isAgg3
  z3 := Tryz.sizeOf3
  v3 := Tryz.zeroValue3
  t4 := Tryz.underlying4
  a4 := Tryz.isAgg4
  z4 := Tryz.sizeOf4
  v4 := Tryz.zeroValue4
  t5 := Tryz.underlying5
  a5 := Tryz.isAgg5
  z5 := Tryz.sizeOf5
  v5 := Tryz.zeroValue5
  t9 := Tryz.underlying9
  a9 := Tryz.isAgg9
  z9 := Tryz.sizeOf9
  v9 := Tryz.zeroValue9
  t21 := Tryz.underlying21
  a21 := Tryz.isAgg21
  z21 := Tryz.sizeOf21
  v21 := Tryz.zeroValue21
  t31 := Tryz.underlying124
  a31 := Tryz.isAgg124
  z31 := Tryz.sizeOf124
  v31 := Tryz.zeroValue124
  t46 := Tryz.underlying181
  a46 := Tryz.isAgg181
  z46 := Tryz.sizeOf181
  v46 := Tryz.zeroValue181
  t51 := Tryz.underlying250
  a51 := Tryz.isAgg250
  z51 := Tryz.sizeOf250
  v51 := Tryz.zeroValue250
  t105 := Tryz.underlying253
  a105 := Tryz.isAgg253
  z105 := Tryz.sizeOf253
  v105 := Tryz.zeroValue253
  t119 := Tryz.underlying269
  a119 := Tryz.isAgg269
  z119 := Tryz.sizeOf269
  t138 := Tryz.underlying271
  a138 := Tryz.isAgg271
  z138 := Tryz.sizeOf271
  v138 := Tryz.zeroValue271
  t139 := Tryz.underlying272
  a139 := Tryz.isAgg272
  z139 := Tryz.sizeOf272
  v139 := Tryz.zeroValue272
  t146 := Tryz.underlying251
  a146 := Tryz.isAgg251
  z146 := Tryz.sizeOf251
  v146 := Tryz.zeroValue251
  g1 := by kernel_rfl
  g3 := by kernel_rfl
  g4 := by kernel_rfl }
theorem Tryz.strings_Split (s sep : ByteArray) (m : Int) (w : World) (hs : s.size < 4294967281) (hm : w.cell? ⟨1, 0, none⟩ = some (.int .i64 m)) (h1 : 1 ≤ sep.size) :
    Calls Tryz.prog 187 #[.string s, .string sep] w fun e w' =>
      e = .returned (.slice (some ⟨w.heap.size, 0, none⟩) (Lib.countB s sep + 1) (Lib.countB s sep + 1)) ∧ w' = w.alloc (.cells ((Lib.splitB sep 0 (Lib.countB s sep) s).map Value.string).toArray 9) := Any.strings_Split Tryz.lays146 (by kernel_rfl) s sep m w hs hm h1
end Go.Proofs
namespace Go.Proofs.YtpjpckmfehfniaaGreatDoor
open Go.RowKit

/-- The number that a digit is, -1 for all else. -/
def hx (b : UInt8) : Int := if 48 ≤ (b.toNat : Int) ∧ (b.toNat : Int) ≤ 57 then (b.toNat : Int) - 48 else if 97 ≤ (b.toNat : Int) ∧ (b.toNat : Int) ≤ 102 then (b.toNat : Int) - 97 + 10 else -1
theorem ret_i {a b : Int} (h : a = b) : Ending.returned (.int .i64 a) = .returned (.int .i64 b) := by rw [h]

set_option maxHeartbeats 400000 in
theorem c118 (c : UInt8) (w : World) :
    Calls Tryz.prog 118 #[.int .u8 c.toNat] w fun e w' => e = .returned (.int .i64 (hx c)) ∧ w' = w := by
  have hc := u8_lt c
  have HX : Hid (hx c = if 48 ≤ (c.toNat : Int) ∧ (c.toNat : Int) ≤ 57 then (c.toNat : Int) - 48 else if 97 ≤ (c.toNat : Int) ∧ (c.toNat : Int) ≤ 102 then (c.toNat : Int) - 97 + 10 else -1) := rfl
  generalize (c.toNat : Int) = n at *
  go_enter Tryz.func118, Tryz.ntmps118
  go_wp2
  all_goals go_ret
  all_goals refine ⟨ret_i ?_, rfl⟩
  all_goals rw [HX.out]
  all_goals (repeat' split)
  all_goals omega

theorem hex_index (b : UInt8) : (Lib.indexByte hexL b = -1 ∧ ∀ n, n < 16 → hexL.getD n 0 ≠ b) ∨ ∃ n : Nat, n < 16 ∧ Lib.indexByte hexL b = n ∧ hexL.getD n 0 = b := by
  have hge := Lib.indexByte_ge hexL b
  by_cases h : Lib.indexByte hexL b = -1
  · refine .inl ⟨h, fun n hn e => Lib.indexByte_none h n ?_⟩
    have hl : n < hexL.length := hn
    rw [← e]
    simp [List.getD, List.getElem?_eq_getElem hl]
  · obtain ⟨o, ho⟩ : ∃ o : Nat, Lib.indexByte hexL b = o := ⟨(Lib.indexByte hexL b).toNat, by omega⟩
    obtain ⟨h1, _⟩ := Lib.indexByte_some ho
    have hl : o < hexL.length := by
      rcases Nat.lt_or_ge o hexL.length with h | h
      · exact h
      · rw [List.getElem?_eq_none h] at h1; cases h1
    exact .inr ⟨o, hl, ho, by simp [List.getD, h1]⟩
theorem c201 (b : UInt8) (w : World) :
    Calls Tryz.prog 201 #[.string ⟨#[48, 49, 50, 51, 52, 53, 54, 55, 56, 57, 97, 98, 99, 100, 101, 102]⟩, .int .u8 b.toNat] w fun e w' => e = .returned (.int .i64 (Lib.indexByte hexL b)) ∧ w' = w := by
  refine (Tryz.strings_IndexByte _ _ w).mono ?_
  rintro e w' ⟨rfl, rfl⟩
  refine ⟨ret_i ?_, rfl⟩
  have e1 : (b.toNat : Int).toNat.toUInt8 = b := by simp
  rw [e1]
  rfl
theorem ret_u8b {a b : Int} {x y : Bool} (h : a = b) (h' : x = y) : Ending.returned (.tuple #[.int .u8 a, .bool x]) = .returned (.tuple #[.int .u8 b, .bool y]) := by rw [h, h']

/-- What unescape comes to. -/
def Unesc (l : List UInt8) (c : UInt8) (ok : Bool) : Prop := (ok = true → plainB c = false ∧ ∃ r, l = qb c ++ r) ∧ (ok = false → ∀ d r, plainB d = false → l ≠ qb d ++ r)

theorem or_form0 : ∀ h l : Fin 16, bits BinOp.or IntKind.i64 (((h.val : Nat) : Int) * 16) ((l.val : Nat) : Int) = 16 * ((h.val : Nat) : Int) + ((l.val : Nat) : Int) := by decide +kernel
theorem or_form (h l : Nat) (hh : h < 16) (hl : l < 16) : bits BinOp.or IntKind.i64 ((h : Int) * 16) (l : Int) % 256 = ((UInt8.ofNat (16 * h + l)).toNat : Int) := by
  have := or_form0 ⟨h, hh⟩ ⟨l, hl⟩
  simp only at this
  rw [this]
  simp
theorem ofNat_parts (h l : Nat) (hh : h < 16) (hl : l < 16) : (UInt8.ofNat (16 * h + l)).toNat / 16 = h ∧ (UInt8.ofNat (16 * h + l)).toNat % 16 = l := by
  have e : (UInt8.ofNat (16 * h + l)).toNat = 16 * h + l := by simp; omega
  rw [e]; omega
theorem list3_of (s : ByteArray) (h : 2 < s.size) : ∃ r, s.data.toList = s[0] :: s[1] :: s[2] :: r := by
  have hl : s.data.toList.length = s.size := by simp
  have g : ∀ (k : Nat) (hk : k < s.size), s.data.toList[k]'(by simpa using hk) = s[k] := fun k hk => by simp [ByteArray.getElem_eq_getElem_data]
  rcases hd : s.data.toList with _ | ⟨a, _ | ⟨b, _ | ⟨c, r⟩⟩⟩
  · rw [hd] at hl; simp at hl; omega
  · rw [hd] at hl; simp at hl; omega
  · rw [hd] at hl; simp at hl; omega
  · have g0 := g 0 (by omega)
    have g1 := g 1 (by omega)
    have g2 := g 2 h
    simp only [hd, List.getElem_cons_zero, List.getElem_cons_succ] at g0 g1 g2
    exact ⟨r, by rw [← g0, ← g1, ← g2]⟩
theorem unesc_no {s : ByteArray} (h : 2 < s.size) (hn : s[0] ≠ 92 ∨ (∀ n, n < 16 → hexL.getD n 0 ≠ s[1]) ∨ (∀ n, n < 16 → hexL.getD n 0 ≠ s[2])) (c : UInt8) : Unesc s.data.toList c false := by
  refine ⟨(fun h => by cases h), fun _ d r hd e => ?_⟩
  obtain ⟨q, hq⟩ := list3_of s h
  rw [hq, qb_not hd] at e
  simp only [List.cons_append, List.nil_append, List.cons.injEq] at e
  have ld := u8_lt d
  rcases hn with hn | hn | hn
  · exact hn e.1
  · exact hn _ (by omega) e.2.1.symm
  · exact hn _ (by omega) e.2.2.1.symm

def Is88 (l : List UInt8) (e : Ending) : Prop := ∃ c ok, e = .returned (.tuple #[.int .u8 (c : UInt8).toNat, .bool ok]) ∧ Unesc l c ok

set_option maxHeartbeats 1000000 in
theorem c170 (s : ByteArray) (w : World) (hs : s.size ≤ 1048700) :
    Calls Tryz.prog 170 #[.string s] w fun e w' => Is88 s.data.toList e ∧ w' = w := by
  by_cases h3 : s.size < 3
  · have HU : Hid (Unesc s.data.toList 0 false) := by
      refine ⟨(fun h => by cases h), fun _ d r hd e => ?_⟩
      have := congrArg List.length e
      rw [qb_not hd] at this
      simp at this
      omega
    go_enter Tryz.func170, Tryz.ntmps170
    go_wp2
    go_ret2
    exact ⟨⟨0, false, rfl, HU.out⟩, rfl⟩
  · have hz0 : 0 < s.size := by omega
    have hz1 : 1 < s.size := by omega
    have hz2 : 2 < s.size := by omega
    by_cases h92 : s[0] = 92
    · have e0 : ((s[0].toNat : Int) != 92) = false := by rw [h92]; rfl
      have H92 : Hid (s[0] = 92) := h92
      clear h92
      go_enter Tryz.func170, Tryz.ntmps170
      go_wp2_with fail
      refine (c201 _ _).mono ?_
      rintro e w' ⟨rfl, rfl⟩
      go_wp2_with fail
      refine (c201 _ _).mono ?_
      rintro e w' ⟨rfl, rfl⟩
      rcases hex_index s[1] with ⟨hi, hin⟩ | ⟨h, hh, hi, hin⟩
      · have HU : Hid (Unesc s.data.toList 0 false) := unesc_no hz2 (.inr (.inl hin)) 0
        clear hin
        rw [hi]
        go_wp2
        go_ret2
        exact ⟨⟨0, false, rfl, HU.out⟩, rfl⟩
      · rw [hi]
        rcases hex_index s[2] with ⟨lo, lon⟩ | ⟨l, hl, lo, lon⟩
        · have HU : Hid (Unesc s.data.toList 0 false) := unesc_no hz2 (.inr (.inr lon)) 0
          clear hin lon
          rw [lo]
          go_wp2
          go_ret2
          exact ⟨⟨0, false, rfl, HU.out⟩, rfl⟩
        · rw [lo]
          have ho := or_form h l hh hl
          obtain ⟨p1, p2⟩ := ofNat_parts h l hh hl
          have HQ : Hid (plainB (UInt8.ofNat (16 * h + l)) = false → qb (UInt8.ofNat (16 * h + l)) = ([92, s[1], s[2]] : List UInt8)) := fun hp => by
            rw [qb_not hp, p1, p2, hin, lon]
          have HV : Hid (plainB (UInt8.ofNat (16 * h + l)) = true → ∀ d r, plainB d = false → s.data.toList ≠ qb d ++ r) := fun hp d r hd e => by
            obtain ⟨q, hq⟩ := list3_of s hz2
            rw [hq, qb_not hd] at e
            simp only [List.cons_append, List.nil_append, List.cons.injEq] at e
            have ld := u8_lt d
            have e1 := hexL_eq (by omega) hh (e.2.1.symm.trans hin.symm)
            have e2 := hexL_eq (by omega) hl (e.2.2.1.symm.trans lon.symm)
            have e3 : d = UInt8.ofNat (16 * h + l) := UInt8.toNat_inj.1 (by have := u8_lt (UInt8.ofNat (16 * h + l)); omega)
            rw [← e3, hd] at hp
            cases hp
          clear hin lon p1 p2
          generalize UInt8.ofNat (16 * h + l) = c at *
          go_wp2_with fail
          rw [ho]
          refine (c168 c _).mono ?_
          rintro e w' ⟨rfl, hw⟩
          obtain rfl := hw.symm
          cases hp : plainB c
          · have HU : Hid (Unesc s.data.toList c true) := by
              refine ⟨fun _ => ⟨hp, ?_⟩, (fun h => by cases h)⟩
              obtain ⟨q, hq⟩ := list3_of s hz2
              exact ⟨q, by rw [hq, HQ.out hp, H92.out]; rfl⟩
            clear hp
            go_wp2
            go_ret2
            exact ⟨⟨c, true, ret_u8b rfl rfl, HU.out⟩, rfl⟩
          · have HU : Hid (Unesc s.data.toList 0 false) := ⟨(fun h => by cases h), fun _ => HV.out hp⟩
            clear hp
            go_wp2
            go_ret2
            exact ⟨⟨0, false, rfl, HU.out⟩, rfl⟩
    · have HU : Hid (Unesc s.data.toList 0 false) := unesc_no hz2 (.inl h92) 0
      have e0 : ((s[0].toNat : Int) != 92) = true := by
        simp only [bne_iff_ne]
        intro e
        exact h92 (UInt8.toNat_inj.1 (by have : s[0].toNat = 92 := by omega
                                         rw [this]; rfl))
      clear h92
      go_enter Tryz.func170, Tryz.ntmps170
      go_wp2
      go_ret2
      exact ⟨⟨0, false, rfl, HU.out⟩, rfl⟩
end Go.Proofs.YtpjpckmfehfniaaGreatDoor
