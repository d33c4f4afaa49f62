import Derived.Shelf.Strings.Cut
import Derived.Test.YtboojefodbjbcaaGreatDoorProg
import Derived.Shelf.Strings.Split
import Derived.Shelf.Small.Strs
import Derived.Test.YtboojefodbjbcaaGreatDoorZR05
import Derived.Lib.IndexLaws
namespace Go.Proofs
open Go.Shelf
def Tryz.lays145_ren : Go.Shelf.Ren := ⟨fun | 145 => 115 | 220 => 132 | 219 => 146 | 217 => 157 | 225 => 158 | 224 => 159 | 267 => 160 | 266 => 167 | 314 => 168 | n => n, fun | 9 => 9 | 4 => 4 | 59 => 193 | 3 => 3 | 5 => 5 | 46 => 199 | 146 => 262 | 51 => 261 | n => n, fun | 1 => 5 | n => n⟩
theorem Tryz.lays145 : Go.Proofs.Lays.n145 Tryz.prog Tryz.lays145_ren := {
 mixed := by kernel_rfl
 f145 := Tryz.func115.trans (congrArg some (by kernel_rfl))
 f217 := Tryz.func157.trans (congrArg some (by kernel_rfl))
 f219 := Tryz.func146.trans (congrArg some (by kernel_rfl))
 f220 := Tryz.func132.trans (congrArg some (by kernel_rfl))
 f224 := Tryz.func159.trans (congrArg some (by kernel_rfl))
 f225 := Tryz.func158.trans (congrArg some (by kernel_rfl))
 f266 := Tryz.func167.trans (congrArg some (by kernel_rfl))
 f267 := Tryz.func160.trans (congrArg some (by kernel_rfl))
 f314 := Tryz.func168.trans (congrArg some (by kernel_rfl))
 t3 := Tryz.underlying3
 a3 := Tryz.isAgg3
 z3 := Tryz.sizeOf3
 v3 := Tryz.zeroValue3
 t4 := Tryz.underlying4
 a4 := Tryz.isAgg4
 z4 := Tryz.sizeOf4
 v4 := Tryz.zeroValue4
 t5 := Tryz.underlying5
 a5 := Tryz.isAgg5
 z5 := Tryz.sizeOf5
 v5 := Tryz.zeroValue5
 t9 := Tryz.underlying9
 a9 := Tryz.isAgg9
 z9 := Tryz.sizeOf9
 v9 := Tryz.zeroValue9
 t46 := Tryz.underlying199
 a46 := Tryz.isAgg199
 z46 := Tryz.sizeOf199
 v46 := Tryz.zeroValue199
 t51 := Tryz.underlying261
 a51 := Tryz.isAgg261
 z51 := Tryz.sizeOf261
 v51 := Tryz.zeroValue261
 t59 := Tryz.underlying193
 a59 := Tryz.isAgg193
 z59 := Tryz.sizeOf193
 v59 := Tryz.zeroValue193
 t146 := Tryz.underlying262
 a146 := Tryz.isAgg262
 z146 := Tryz.sizeOf262
 v146 := Tryz.zeroValue262
 g1 := by kernel_rfl }
theorem Tryz.strings_Cut (s sep : ByteArray) (m : Int) (w : World) (hs : s.size < 4294967281) (hm : w.cell? ⟨5, 0, none⟩ = some (.int .i64 m)) :
 Calls Tryz.prog 115 #[.string s, .string sep] w fun e w' => e = .returned (.tuple #[.string ⟨(Lib.cut s.data.toList sep.data.toList).1.toArray⟩, .string ⟨(Lib.cut s.data.toList sep.data.toList).2.1.toArray⟩, .bool (Lib.cut s.data.toList sep.data.toList).2.2]) ∧ ∃ n, w' = w.drewN n := Any.strings_Cut Tryz.lays145 s sep m w hs hm
end Go.Proofs
namespace Go.Proofs
open Go.Shelf
def Tryz.lays137_ren : Go.Shelf.Ren := ⟨fun | 137 => 166 | 217 => 157 | 266 => 167 | n => n, fun | 9 => 9 | 5 => 5 | 3 => 3 | n => n, fun | n => n⟩
theorem Tryz.lays137 : Go.Proofs.Lays.n137 Tryz.prog Tryz.lays137_ren := {
 mixed := by kernel_rfl
 f137 := Tryz.func166.trans (congrArg some (by kernel_rfl))
 f217 := Tryz.func157.trans (congrArg some (by kernel_rfl))
 f266 := Tryz.func167.trans (congrArg some (by kernel_rfl))
 t3 := Tryz.underlying3
 a3 := Tryz.isAgg3
 z3 := Tryz.sizeOf3
 v3 := Tryz.zeroValue3
 t5 := Tryz.underlying5
 a5 := Tryz.isAgg5
 z5 := Tryz.sizeOf5
 v5 := Tryz.zeroValue5
 t9 := Tryz.underlying9
 a9 := Tryz.isAgg9
 z9 := Tryz.sizeOf9
 v9 := Tryz.zeroValue9 }
theorem Tryz.strings_IndexByte (s : ByteArray) (c : Int) (w : World) :
 Calls Tryz.prog 166 #[.string s, .int .u8 c] w fun e w' => e = .returned (.int .i64 (Lib.indexByte s.data.toList c.toNat.toUInt8)) ∧ w' = w := Any.strings_IndexByte Tryz.lays137 s c w
def Tryz.lays147_ren : Go.Shelf.Ren := ⟨fun | 147 => 141 | 221 => 152 | 268 => 164 | 138 => 123 | 143 => 140 | 195 => 138 | 197 => 170 | 218 => 139 | 219 => 146 | 260 => 173 | 217 => 157 | 225 => 158 | 224 => 159 | 267 => 160 | 266 => 167 | 314 => 168 | n => n, fun | 9 => 9 | 3 => 3 | 31 => 22 | 4 => 4 | 0 => 0 | 105 => 264 | 21 => 21 | 5 => 5 | 46 => 199 | 119 => 273 | 139 => 276 | 138 => 275 | 146 => 262 | 51 => 261 | n => n, fun | 1 => 5 | 3 => 9 | 4 => 10 | n => n⟩
theorem Tryz.lays147 : Go.Proofs.Lays.n147 Tryz.prog Tryz.lays147_ren := {
 mixed := by kernel_rfl
 f138 := Tryz.func123.trans (congrArg some (by kernel_rfl))
 f143 := Tryz.func140.trans (congrArg some (by kernel_rfl))
 f147 := Tryz.func141.trans (congrArg some (by kernel_rfl))
 f195 := Tryz.func138.trans (congrArg some (by kernel_rfl))
 f197 := Tryz.func170.trans (congrArg some (by kernel_rfl))
 f217 := Tryz.func157.trans (congrArg some (by kernel_rfl))
 f218 := Tryz.func139.trans (congrArg some (by kernel_rfl))
 f219 := Tryz.func146.trans (congrArg some (by kernel_rfl))
 f221 := Tryz.func152.trans (congrArg some (by kernel_rfl))
 f224 := Tryz.func159.trans (congrArg some (by kernel_rfl))
 f225 := Tryz.func158.trans (congrArg some (by kernel_rfl))
 f260 := Tryz.func173.trans (congrArg some (by kernel_rfl))
 f266 := Tryz.func167.trans (congrArg some (by kernel_rfl))
 f267 := Tryz.func160.trans (congrArg some (by kernel_rfl))
 f268 := Tryz.func164.trans (congrArg some (by kernel_rfl))
 f314 := Tryz.func168.trans (congrArg some (by kernel_rfl))
 t0 := Tryz.underlying0
 a0 := Tryz.isAgg0
 z0 := Tryz.sizeOf0
 v0 := Tryz.zeroValue0
 t3 := Tryz.underlying3
 a3 := Tryz.isAgg3
 z3 := Tryz.sizeOf3
 v3 := Tryz.zeroValue3
 t4 := Tryz.underlying4
 a4 := Tryz.isAgg4
 z4 := Tryz.sizeOf4
 v4 := Tryz.zeroValue4
 t5 := Tryz.underlying5
 a5 := Tryz.isAgg5
 z5 := Tryz.sizeOf5
 v5 := Tryz.zeroValue5
 t9 := Tryz.underlying9
 a9 := Tryz.isAgg9
 z9 := Tryz.sizeOf9
 v9 := Tryz.zeroValue9
 t21 := Tryz.underlying21
 a21 := Tryz.isAgg21
 z21 := Tryz.sizeOf21
 v21 := Tryz.zeroValue21
 t31 := Tryz.underlying22
 a31 := Tryz.isAgg22
 z31 := Tryz.sizeOf22
 v31 := Tryz.zeroValue22
 t46 := Tryz.underlying199
 a46 := Tryz.isAgg199
 z46 := Tryz.sizeOf199
 v46 := Tryz.zeroValue199
 t51 := Tryz.underlying261
 a51 := Tryz.isAgg261
 z51 := Tryz.sizeOf261
 v51 := Tryz.zeroValue261
 t105 := Tryz.underlying264
 a105 := Tryz.isAgg264
 z105 := Tryz.sizeOf264
 v105 := Tryz.zeroValue264
 t119 := Tryz.underlying273
 a119 := Tryz.isAgg273
 z119 := Tryz.sizeOf273
 t138 := Tryz.underlying275
 a138 := Tryz.isAgg275
 z138 := Tryz.sizeOf275
 v138 := Tryz.zeroValue275
 t139 := Tryz.underlying276
 a139 := Tryz.isAgg276
 z139 := Tryz.sizeOf276
 v139 := Tryz.zeroValue276
 t146 := Tryz.underlying262
 a146 := Tryz.isAgg262
 z146 := Tryz.sizeOf262
 v146 := Tryz.zeroValue262
 g1 := by kernel_rfl
 g3 := by kernel_rfl
 g4 := by kernel_rfl }
theorem Tryz.strings_SplitN (s sep : ByteArray) (n : Nat) (m : Int) (w : World) (hs : s.size < 4294967281) (hm : w.cell? ⟨5, 0, none⟩ = some (.int .i64 m)) (h1 : 1 ≤ sep.size) (hn : 1 ≤ n) (hn63 : n ≤ 9223372036854775807) :
 Calls Tryz.prog 141 #[.string s, .string sep, .int .i64 n] w fun e w' =>
  e = .returned (.slice (some ⟨w.heap.size, 0, none⟩) (Lib.splitB sep 0 (min n (s.size + 1) - 1) s).length (min n (s.size + 1))) ∧ w' = w.alloc (.cells (Lib.cellsOf (Lib.splitB sep 0 (min n (s.size + 1) - 1) s) (min n (s.size + 1))) 9) := Any.strings_SplitN Tryz.lays147 (by kernel_rfl) s sep n m w hs hm h1 hn hn63
end Go.Proofs
namespace Go.Proofs.YtboojefodbjbcaaGreatDoor.G
open Go.RowKit
def hx (b : UInt8) : Int := if 48 ≤ (b.toNat : Int) ∧ (b.toNat : Int) ≤ 57 then (b.toNat : Int) - 48 else if 97 ≤ (b.toNat : Int) ∧ (b.toNat : Int) ≤ 102 then (b.toNat : Int) - 97 + 10 else -1
theorem ret_i {a b : Int} (h : a = b) : Ending.returned (.int .i64 a) = .returned (.int .i64 b) := by rw [h]
set_option maxHeartbeats 400000 in
theorem c162 (c : UInt8) (w : World) :
 Calls Tryz.prog 162 #[.int .u8 c.toNat] w fun e w' => e = .returned (.int .i64 (hx c)) ∧ w' = w := by
 have hc := u8_lt c
 have HX : Hid (hx c = if 48 ≤ (c.toNat : Int) ∧ (c.toNat : Int) ≤ 57 then (c.toNat : Int) - 48 else if 97 ≤ (c.toNat : Int) ∧ (c.toNat : Int) ≤ 102 then (c.toNat : Int) - 97 + 10 else -1) := rfl
 generalize (c.toNat : Int) = n at *
 go_enter Tryz.func162, Tryz.ntmps162
 go_wp2
 all_goals go_ret
 all_goals refine ⟨ret_i ?_, rfl⟩
 all_goals rw [HX.out]
 all_goals (repeat' split)
 all_goals omega
theorem hex_index (b : UInt8) : (Lib.indexByte hexL b = -1 ∧ ∀ n, n < 16 → hexL.getD n 0 ≠ b) ∨ ∃ n : Nat, n < 16 ∧ Lib.indexByte hexL b = n ∧ hexL.getD n 0 = b := by
 have hge := Lib.indexByte_ge hexL b
 by_cases h : Lib.indexByte hexL b = -1
 · refine .inl ⟨h, fun n hn e => Lib.indexByte_none h n ?_⟩
   have hl : n < hexL.length := hn
   rw [← e]
   simp [List.getD, List.getElem?_eq_getElem hl]
 · obtain ⟨o, ho⟩ : ∃ o : Nat, Lib.indexByte hexL b = o := ⟨(Lib.indexByte hexL b).toNat, by omega⟩
   obtain ⟨h1, _⟩ := Lib.indexByte_some ho
   have hl : o < hexL.length := by
    rcases Nat.lt_or_ge o hexL.length with h | h
    · exact h
    · rw [List.getElem?_eq_none h] at h1; cases h1
   exact .inr ⟨o, hl, ho, by simp [List.getD, h1]⟩
theorem c166 (b : UInt8) (w : World) :
 Calls Tryz.prog 166 #[.string ⟨#[48, 49, 50, 51, 52, 53, 54, 55, 56, 57, 97, 98, 99, 100, 101, 102]⟩, .int .u8 b.toNat] w fun e w' => e = .returned (.int .i64 (Lib.indexByte hexL b)) ∧ w' = w := by
 refine (Tryz.strings_IndexByte _ _ w).mono ?_
 rintro e w' ⟨rfl, rfl⟩
 refine ⟨ret_i ?_, rfl⟩
 have e1 : (b.toNat : Int).toNat.toUInt8 = b := by simp
 rw [e1]
 rfl
theorem ret_u8b {a b : Int} {x y : Bool} (h : a = b) (h' : x = y) : Ending.returned (.tuple #[.int .u8 a, .bool x]) = .returned (.tuple #[.int .u8 b, .bool y]) := by rw [h, h']
def Unesc (l : List UInt8) (c : UInt8) (ok : Bool) : Prop := (ok = true → plainB c = false ∧ ∃ r, l = qb c ++ r) ∧ (ok = false → ∀ d r, plainB d = false → l ≠ qb d ++ r)
theorem or_form0 : ∀ h l : Fin 16, bits BinOp.or IntKind.i64 (((h.val : Nat) : Int) * 16) ((l.val : Nat) : Int) = 16 * ((h.val : Nat) : Int) + ((l.val : Nat) : Int) := by decide +kernel
theorem or_form (h l : Nat) (hh : h < 16) (hl : l < 16) : bits BinOp.or IntKind.i64 ((h : Int) * 16) (l : Int) % 256 = ((UInt8.ofNat (16 * h + l)).toNat : Int) := by
 have := or_form0 ⟨h, hh⟩ ⟨l, hl⟩
 simp only at this
 rw [this]
 simp
theorem ofNat_parts (h l : Nat) (hh : h < 16) (hl : l < 16) : (UInt8.ofNat (16 * h + l)).toNat / 16 = h ∧ (UInt8.ofNat (16 * h + l)).toNat % 16 = l := by
 have e : (UInt8.ofNat (16 * h + l)).toNat = 16 * h + l := by simp; omega
 rw [e]; omega
theorem list3_of (s : ByteArray) (h : 2 < s.size) : ∃ r, s.data.toList = s[0] :: s[1] :: s[2] :: r := by
 have hl : s.data.toList.length = s.size := by simp
 have g : ∀ (k : Nat) (hk : k < s.size), s.data.toList[k]'(by simpa using hk) = s[k] := fun k hk => by simp [ByteArray.getElem_eq_getElem_data]
 rcases hd : s.data.toList with _ | ⟨a, _ | ⟨b, _ | ⟨c, r⟩⟩⟩
 · rw [hd] at hl; simp at hl; omega
 · rw [hd] at hl; simp at hl; omega
 · rw [hd] at hl; simp at hl; omega
 · have g0 := g 0 (by omega)
   have g1 := g 1 (by omega)
   have g2 := g 2 h
   simp only [hd, List.getElem_cons_zero, List.getElem_cons_succ] at g0 g1 g2
   exact ⟨r, by rw [← g0, ← g1, ← g2]⟩
theorem unesc_no {s : ByteArray} (h : 2 < s.size) (hn : s[0] ≠ 92 ∨ (∀ n, n < 16 → hexL.getD n 0 ≠ s[1]) ∨ (∀ n, n < 16 → hexL.getD n 0 ≠ s[2])) (c : UInt8) : Unesc s.data.toList c false := by
 refine ⟨(fun h => by cases h), fun _ d r hd e => ?_⟩
 obtain ⟨q, hq⟩ := list3_of s h
 rw [hq, qb_not hd] at e
 simp only [List.cons_append, List.nil_append, List.cons.injEq] at e
 have ld := u8_lt d
 rcases hn with hn | hn | hn
 · exact hn e.1
 · exact hn _ (by omega) e.2.1.symm
 · exact hn _ (by omega) e.2.2.1.symm
def Is88 (l : List UInt8) (e : Ending) : Prop := ∃ c ok, e = .returned (.tuple #[.int .u8 (c : UInt8).toNat, .bool ok]) ∧ Unesc l c ok
set_option maxHeartbeats 1000000 in
theorem c155 (s : ByteArray) (w : World) (hs : s.size ≤ 1048700) :
 Calls Tryz.prog 155 #[.string s] w fun e w' => Is88 s.data.toList e ∧ w' = w := by
 by_cases h3 : s.size < 3
 · have HU : Hid (Unesc s.data.toList 0 false) := by
    refine ⟨(fun h => by cases h), fun _ d r hd e => ?_⟩
    have := congrArg List.length e
    rw [qb_not hd] at this
    simp at this
    omega
   go_enter Tryz.func155, Tryz.ntmps155
   go_wp2
   go_ret2
   exact ⟨⟨0, false, rfl, HU.out⟩, rfl⟩
 · have hz0 : 0 < s.size := by omega
   have hz1 : 1 < s.size := by omega
   have hz2 : 2 < s.size := by omega
   by_cases h92 : s[0] = 92
   · have e0 : ((s[0].toNat : Int) != 92) = false := by rw [h92]; rfl
     have H92 : Hid (s[0] = 92) := h92
     clear h92
     go_enter Tryz.func155, Tryz.ntmps155
     go_wp2_with fail
     refine (c166 _ _).mono ?_
     rintro e w' ⟨rfl, rfl⟩
     go_wp2_with fail
     refine (c166 _ _).mono ?_
     rintro e w' ⟨rfl, rfl⟩
     rcases hex_index s[1] with ⟨hi, hin⟩ | ⟨h, hh, hi, hin⟩
     · have HU : Hid (Unesc s.data.toList 0 false) := unesc_no hz2 (.inr (.inl hin)) 0
       clear hin
       rw [hi]
       go_wp2
       go_ret2
       exact ⟨⟨0, false, rfl, HU.out⟩, rfl⟩
     · rw [hi]
       rcases hex_index s[2] with ⟨lo, lon⟩ | ⟨l, hl, lo, lon⟩
       · have HU : Hid (Unesc s.data.toList 0 false) := unesc_no hz2 (.inr (.inr lon)) 0
         clear hin lon
         rw [lo]
         go_wp2
         go_ret2
         exact ⟨⟨0, false, rfl, HU.out⟩, rfl⟩
       · rw [lo]
         have ho := or_form h l hh hl
         obtain ⟨p1, p2⟩ := ofNat_parts h l hh hl
         have HQ : Hid (plainB (UInt8.ofNat (16 * h + l)) = false → qb (UInt8.ofNat (16 * h + l)) = ([92, s[1], s[2]] : List UInt8)) := fun hp => by
          rw [qb_not hp, p1, p2, hin, lon]
         have HV : Hid (plainB (UInt8.ofNat (16 * h + l)) = true → ∀ d r, plainB d = false → s.data.toList ≠ qb d ++ r) := fun hp d r hd e => by
          obtain ⟨q, hq⟩ := list3_of s hz2
          rw [hq, qb_not hd] at e
          simp only [List.cons_append, List.nil_append, List.cons.injEq] at e
          have ld := u8_lt d
          have e1 := hexL_eq (by omega) hh (e.2.1.symm.trans hin.symm)
          have e2 := hexL_eq (by omega) hl (e.2.2.1.symm.trans lon.symm)
          have e3 : d = UInt8.ofNat (16 * h + l) := UInt8.toNat_inj.1 (by have := u8_lt (UInt8.ofNat (16 * h + l)); omega)
          rw [← e3, hd] at hp
          cases hp
         clear hin lon p1 p2
         generalize UInt8.ofNat (16 * h + l) = c at *
         go_wp2_with fail
         rw [ho]
         refine (c153 c _).mono ?_
         rintro e w' ⟨rfl, hw⟩
         obtain rfl := hw.symm
         cases hp : plainB c
         · have HU : Hid (Unesc s.data.toList c true) := by
            refine ⟨fun _ => ⟨hp, ?_⟩, (fun h => by cases h)⟩
            obtain ⟨q, hq⟩ := list3_of s hz2
            exact ⟨q, by rw [hq, HQ.out hp, H92.out]; rfl⟩
           clear hp
           go_wp2
           go_ret2
           exact ⟨⟨c, true, ret_u8b rfl rfl, HU.out⟩, rfl⟩
         · have HU : Hid (Unesc s.data.toList 0 false) := ⟨(fun h => by cases h), fun _ => HV.out hp⟩
           clear hp
           go_wp2
           go_ret2
           exact ⟨⟨0, false, rfl, HU.out⟩, rfl⟩
   · have HU : Hid (Unesc s.data.toList 0 false) := unesc_no hz2 (.inl h92) 0
     have e0 : ((s[0].toNat : Int) != 92) = true := by
      simp only [bne_iff_ne]
      intro e
      exact h92 (UInt8.toNat_inj.1 (by have : s[0].toNat = 92 := by omega
                                       rw [this]; rfl))
     clear h92
     go_enter Tryz.func155, Tryz.ntmps155
     go_wp2
     go_ret2
     exact ⟨⟨0, false, rfl, HU.out⟩, rfl⟩
end Go.Proofs.YtboojefodbjbcaaGreatDoor.G
namespace Go.Proofs.YtboojefodbjbcaaGreatDoor.G
open Go.RowKit
def Unq (q t : List UInt8) (ok : Bool) : Prop := (ok = true → q = quoteL t) ∧ (ok = false → ∀ l, q ≠ quoteL l)
def Is74 (q : List UInt8) (e : Ending) : Prop := ∃ t ok, e = .returned (.tuple #[.string (ofL t), .bool ok]) ∧ Unq q t ok
theorem ext_list (s : ByteArray) (a b : Nat) : (s.extract a b).data.toList = (s.data.toList.take b).drop a := by
 rw [ByteArray.data_extract, Array.toList_extract, List.extract_eq_take_drop, List.drop_take]
theorem drop_at (s : ByteArray) (k : Nat) (h : k < s.size) : s.data.toList.drop k = s[k] :: s.data.toList.drop (k + 1) := by
 rw [List.drop_eq_getElem_cons (by simpa using h)]
 rfl
theorem inner_of (q : ByteArray) (h2 : 2 ≤ q.size) (hf : (q[0].toNat : Int) = 34) (hl : (q[q.size - 1].toNat : Int) = 34) : q.data.toList = 34 :: ((q.extract 1 (q.size - 1)).data.toList ++ [34]) := by
 have e0 : q[0] = 34 := UInt8.toNat_inj.1 (by have : q[0].toNat = 34 := by omega
                                              rw [this]; rfl)
 have e1 : q[q.size - 1] = 34 := UInt8.toNat_inj.1 (by have : q[q.size - 1].toNat = 34 := by omega
                                                       rw [this]; rfl)
 have hlen : q.data.toList.length = q.size := by simp
 have t1 : q.data.toList = q.data.toList.take (q.size - 1) ++ q.data.toList.drop (q.size - 1) := (List.take_append_drop _ _).symm
 have d0 := drop_at q (q.size - 1) (by omega)
 rw [e1, List.drop_of_length_le (show q.data.toList.length ≤ q.size - 1 + 1 by omega)] at d0
 have d1 := drop_at q 0 (by omega)
 rw [e0] at d1
 simp only [List.drop_zero, Nat.zero_add] at d1
 rw [ext_list]
 have t2 : q.data.toList.take (q.size - 1) = 34 :: (q.data.toList.take (q.size - 1)).drop 1 := by
  obtain ⟨m, hm⟩ : ∃ m, q.size - 1 = m + 1 := ⟨q.size - 2, by omega⟩
  rw [hm]
  conv => lhs; rw [d1]
  rw [d1]
  simp
 rw [← List.cons_append, ← t2, ← d0]
 exact t1
theorem not_quote {q : List UInt8} (h : q.length < 2 ∨ q.headD 0 ≠ 34 ∨ q.getLastD 0 ≠ 34) : ∀ l, q ≠ quoteL l := by
 intro l e
 subst e
 rcases h with h | h | h
 · have := quote_ge l; omega
 · exact h rfl
 · apply h
   show (34 :: (l.flatMap qb ++ [34])).getLastD 0 = 34
   rw [← List.cons_append, List.getLastD_concat]
theorem take_ext (s : ByteArray) (k : Nat) (_ : k ≤ s.size) : s.data.toList = s.data.toList.take k ++ (s.extract k s.size).data.toList := by
 rw [ext_list, List.take_of_length_le (show s.data.toList.length ≤ s.size by simp), List.take_append_drop]
set_option maxHeartbeats 1000000 in
theorem c189_in (q : ByteArray) (w : World) (hs : q.size ≤ 1048700) (h2 : 2 ≤ q.size) (hf : (q[0].toNat : Int) = 34) (hl : (q[q.size - 1].toNat : Int) = 34) :
 Calls Tryz.prog 142 #[.string q] w fun e w' => Is74 q.data.toList e ∧ Below w.heap.size w w' := by
 have HF : Hid (Lib.IsBuilder 251 5 w.heap.size w.heap.size [] (w.alloc (.cells #[.pointer none, .slice none 0 0] 251))) := Lib.fresh_isBuilder 251 5 w
 have HI : Hid (q.data.toList = 34 :: ((q.extract 1 (q.size - 1)).data.toList ++ [34])) := inner_of q h2 hf hl
 have hz : (q.extract 1 (q.size - 1)).size ≤ 1048700 := by simp; omega
 go_enter Tryz.func142, Tryz.ntmps142
 go_wp2_with fail
 clear hf hl
 generalize q.extract 1 (q.size - 1) = I at *
 go_loopw [6] (fun i wr => ∃ (k : Nat) (t : List UInt8), k ≤ I.size ∧ i = .int .i64 k ∧ t.length ≤ k ∧ Hid (I.data.toList.take k = t.flatMap qb) ∧ Hid (Lib.IsBuilder 251 5 w.heap.size w.heap.size (Lib.byteCells t) wr) ∧ Below w.heap.size w wr ∧ w.heap.size + 1 ≤ wr.heap.size) (fun i _ => I.size - (intOf i).toNat)
 case atStart => exact ⟨0, [], Nat.zero_le _, rfl, Nat.le_refl _, rfl, HF, (Below.refl _ _).alloc (Nat.le_refl _) _, by simp⟩
 case round =>
  obtain ⟨k, t, hk, rfl, htk, htl, hbl, hb, hzr⟩ := hrel
  by_cases hlt : k < I.size
  · go_wp2_with fail
    refine (c153 I[k] _).mono ?_
    rintro e w1 ⟨rfl, hw1⟩
    obtain rfl := hw1.symm
    cases hp : plainB I[k]
    · have HP : Hid (plainB I[k] = false) := hp
      clear hp
      go_wp2_with fail
      refine (c155 _ _ (by simp; omega)).mono ?_
      rintro e w1 ⟨⟨c, ok, rfl, hun⟩, hw1⟩
      obtain rfl := hw1.symm
      have HD : Hid (I.data.toList = t.flatMap qb ++ (I.extract k I.size).data.toList) := by rw [← htl.out]; exact take_ext I k hk
      cases ok
      · have HU : Hid (Unq q.data.toList [] false) := by
         refine ⟨(fun h => by cases h), fun _ l e => ?_⟩
         rw [HI.out] at e
         unfold quoteL at e
         simp only [List.cons.injEq, true_and, List.append_cancel_right_eq] at e
         rw [HD.out] at e
         obtain ⟨r, hr, _⟩ := flat_pre e
         have hne : (I.extract k I.size).data.toList = I[k] :: I.data.toList.drop (k + 1) := by
          rw [ext_list, List.take_of_length_le (by simp), drop_at I k hlt]
         cases r with
         | nil => rw [hr] at hne; cases hne
         | cons d r =>
          rw [hr, List.flatMap_cons] at hne
          cases hd : plainB d
          · exact hun.2 rfl d _ hd hr
          · rw [qb_plain hd] at hne
            simp only [List.cons_append, List.nil_append, List.cons.injEq] at hne
            rw [hne.1, HP.out] at hd
            cases hd
        clear hun
        go_wp2
        go_ret2
        exact ⟨⟨[], false, rfl, HU.out⟩, hb⟩
      · have HQ : Hid (plainB c = false ∧ ∃ r, (I.extract k I.size).data.toList = qb c ++ r) := hun.1 rfl
        clear hun
        have hk3 : k + 3 ≤ I.size := by
         obtain ⟨h1, r, h2⟩ := HQ.out
         have := congrArg List.length h2
         rw [qb_not h1] at this
         simp at this
         omega
        have HT : Hid (I.data.toList.take (k + 3) = (t ++ [c]).flatMap qb) := by
         obtain ⟨h1, r, h2⟩ := HQ.out
         have hl : (t.flatMap qb).length = k := by rw [← htl.out]; simp; omega
         rw [HD.out, h2, ← List.append_assoc, List.take_append_of_le_length (by rw [List.length_append, hl, qb_not h1]; simp), List.take_of_length_le (by rw [List.length_append, hl, qb_not h1]; simp), List.flatMap_append]
         simp [Hid]
        go_wp2_with fail
        refine (c154 w.heap.size w.heap.size (Lib.byteCells t) c.toNat _ hbl.out (by rw [cells_len]; omega) (by omega)).mono ?_
        rintro e w3 ⟨rfl, h3, hb3⟩
        have H3 : Hid (Lib.IsBuilder 251 5 w.heap.size w.heap.size (Lib.byteCells (t ++ [c])) w3) := by rw [cells_snoc]; exact h3
        have hB3 : Below w.heap.size w w3 := hb.trans hb3
        have hz3 : w.heap.size + 1 ≤ w3.heap.size := Nat.le_trans hzr hb3.size
        clear h3 hb3
        go_wp2
        go_roundw
        case rel => exact ⟨k + 3, t ++ [c], hk3, by go_num, by simp; omega, HT, H3, hB3, hz3⟩
        case measure => simp [intOf]; omega
    · have HT : Hid (I.data.toList.take (k + 1) = (t ++ [I[k]]).flatMap qb) := by
       rw [take_snoc I k hlt, htl.out, List.flatMap_append]; simp [Hid, qb_plain hp]
      clear hp
      go_wp2_with fail
      refine (c154 w.heap.size w.heap.size (Lib.byteCells t) _ _ hbl.out (by rw [cells_len]; omega) (by omega)).mono ?_
      rintro e w3 ⟨rfl, h3, hb3⟩
      have H3 : Hid (Lib.IsBuilder 251 5 w.heap.size w.heap.size (Lib.byteCells (t ++ [I[k]])) w3) := by rw [cells_snoc]; exact h3
      have hB3 : Below w.heap.size w w3 := hb.trans hb3
      have hz3 : w.heap.size + 1 ≤ w3.heap.size := Nat.le_trans hzr hb3.size
      clear h3 hb3
      go_wp2
      go_roundw
      case rel => exact ⟨k + 1, t ++ [I[k]], by omega, by go_num, by simp; omega, HT, H3, hB3, hz3⟩
      case measure => simp [intOf]; omega
  · have HU : Hid (Unq q.data.toList t true) := by
     refine ⟨fun _ => ?_, (fun h => by cases h)⟩
     have := htl.out
     rw [List.take_of_length_le (by simp; omega)] at this
     rw [HI.out, this]; rfl
    go_wp2_with fail
    refine (Tryz.Builder_String_any w.heap.size w.heap.size t _ hbl.out (by omega)).mono ?_
    rintro e w4 ⟨rfl, hb4⟩
    go_wp2
    go_ret2
    exact ⟨⟨t, true, rfl, HU.out⟩, hb.trans hb4⟩
set_option maxHeartbeats 1000000 in
theorem c142 (q : ByteArray) (w : World) (hs : q.size ≤ 1048700) :
 Calls Tryz.prog 142 #[.string q] w fun e w' => Is74 q.data.toList e ∧ Below w.heap.size w w' := by
 by_cases h2 : 2 ≤ q.size
 · have hz0 : 0 < q.size := by omega
   have hz1 : q.size - 1 < q.size := by omega
   by_cases hf : (q[0].toNat : Int) = 34
   · by_cases hl : (q[q.size - 1].toNat : Int) = 34
     · exact c189_in q w hs h2 hf hl
     · have HU : Hid (Is74 q.data.toList (.returned (.tuple #[.string ⟨#[]⟩, .bool false]))) := by
        refine ⟨[], false, rfl, (fun h => by cases h), fun _ => not_quote (.inr (.inr fun e => hl ?_))⟩
        have d0 := drop_at q (q.size - 1) (by omega)
        rw [List.drop_of_length_le (show q.data.toList.length ≤ q.size - 1 + 1 by simp; omega)] at d0
        have : q.data.toList = q.data.toList.take (q.size - 1) ++ [q[q.size - 1]] := by rw [← d0]; exact (List.take_append_drop _ _).symm
        rw [this] at e
        simp at e
        rw [e]; rfl
       have e1 : ((q[q.size - 1].toNat : Int) != 34) = true := by simpa using hl
       clear hl
       go_enter Tryz.func142, Tryz.ntmps142
       go_wp2
       go_ret2
       exact ⟨HU.out, Below.refl _ _⟩
   · have HU : Hid (Is74 q.data.toList (.returned (.tuple #[.string ⟨#[]⟩, .bool false]))) := by
      refine ⟨[], false, rfl, (fun h => by cases h), fun _ => not_quote (.inr (.inl fun e => hf ?_))⟩
      have d1 := drop_at q 0 (by omega)
      simp only [List.drop_zero] at d1
      rw [d1] at e
      simp at e
      rw [e]; rfl
     have e1 : ((q[0].toNat : Int) != 34) = true := by simpa using hf
     clear hf
     go_enter Tryz.func142, Tryz.ntmps142
     go_wp2
     go_ret2
     exact ⟨HU.out, Below.refl _ _⟩
 · have HU : Hid (Is74 q.data.toList (.returned (.tuple #[.string ⟨#[]⟩, .bool false]))) := ⟨[], false, rfl, (fun h => by cases h), fun _ => not_quote (.inl (by simp; omega))⟩
   go_enter Tryz.func142, Tryz.ntmps142
   go_wp2
   go_ret2
   exact ⟨HU.out, Below.refl _ _⟩
end Go.Proofs.YtboojefodbjbcaaGreatDoor.G
