import Derived.Test.YtpjpckmfehfniaaGreatDoorZC05
import Derived.Shelf.Strings.Split
import Derived.Shelf.Strings.Cut
import Derived.Shelf.Small.Strs
import Derived.Test.YtpjpckmfehfniaaGreatDoorProg
import Derived.Test.YtpjpckmfehfniaaGreatDoorZC04
import Derived.Lib.IndexLaws
namespace Go.Proofs.YtpjpckmfehfniaaGreatDoor
open Go.RowKit
theorem body_no10 (x : I3) : (10 : UInt8) ∉ body x := by
 unfold body
 simp only [List.mem_append, not_or]
 refine ⟨⟨(word_no32 _).2, ?_⟩, ?_⟩
 · unfold toL; split
   · simp only [List.mem_cons, not_or]; exact ⟨by decide, (decD_no32 _).2⟩
   · simp
 · unfold txL; split
   · simp only [List.mem_cons, not_or]; exact ⟨by decide, quote_no10 _⟩
   · simp
theorem split10 {a b r q : List UInt8} (ha : (10 : UInt8) ∉ a) (hb : (10 : UInt8) ∉ b) (h : a ++ 10 :: r = b ++ 10 :: q) : a = b ∧ r = q := by
 induction a generalizing b with
 | nil =>
   cases b with
   | nil => simpa using h
   | cons c b => simp at h; exact absurd (by rw [h.1]; simp) hb
 | cons d a ih =>
   cases b with
   | nil => simp at h; exact absurd (by rw [h.1]; simp) ha
   | cons c b =>
     simp only [List.cons_append, List.cons.injEq] at h
     obtain ⟨h1, h2⟩ := ih (fun h => ha (List.mem_cons_of_mem _ h)) (fun h => hb (List.mem_cons_of_mem _ h)) h.2
     exact ⟨by rw [h.1, h1], h2⟩
theorem decD_inj {a b : Nat} (h : Lib.decDigits a = Lib.decDigits b) : a = b := by
 have h1 := (decD_ok a).2
 have h2 := (decD_ok b).2
 rw [h] at h1
 omega
theorem tx_inj {a b : ByteArray} (h : a.data.toList = b.data.toList) : a = b := ByteArray.ext (Array.toList_inj.1 h)
theorem tx_empty {a b : ByteArray} (ha : a.toList.isEmpty = true) (hb : b.toList.isEmpty = true) : a = b := by
 apply tx_inj
 rw [ByteArray.toList_eq] at ha hb
 rw [List.isEmpty_iff] at ha hb
 rw [ha, hb]
theorem body_inj {x y : I3} (hx : okI x = true) (hy : okI y = true) (h : body x = body y) : x = y := by
 obtain ⟨x1, x2, x3, x4, x5, x6⟩ := okI_bad hx
 obtain ⟨y1, y2, y3, y4, y5, y6⟩ := okI_bad hy
 have ho : x.op = y.op := word_inj x1 y1 (by rw [← body_word hx, ← body_word hy, h])
 obtain ⟨op, tx, to⟩ := x
 obtain ⟨op', tx', to'⟩ := y
 simp only at ho
 subst ho
 simp only at x2 x3 x4 x5 x6 y2 y3 y4 y5 y6
 unfold body toL txL at h
 simp only [List.append_assoc, List.append_cancel_left_eq] at h
 cases hO : usesTo op <;> cases hX : usesTx op
 · simp only [hO, Bool.false_eq_true, false_or] at x2 y2
   simp only [hX, Bool.false_eq_true, false_or] at x3 y3
   rw [x2, y2, tx_empty x3 y3]
 · simp only [hO, Bool.false_eq_true, false_or] at x2 y2
   simp only [hO, hX, Bool.false_eq_true, if_false, if_true, List.nil_append, List.cons.injEq, true_and] at h
   rw [x2, y2, tx_inj (quoteL_inj h)]
 · simp only [hX, Bool.false_eq_true, false_or] at x3 y3
   simp only [hO, hX, Bool.false_eq_true, if_false, if_true, List.append_nil, List.cons.injEq, true_and] at h
   have := decD_inj h
   rw [tx_empty x3 y3, show to = to' by omega]
 · simp only [hO, hX, if_true, List.cons_append, List.cons.injEq, true_and] at h
   have h1 := (word_split (r := quoteL tx.data.toList) (decD_no32 to.toNat).1)
   have h2 := (word_split (r := quoteL tx'.data.toList) (decD_no32 to'.toNat).1)
   rw [h] at h1
   have e1 := decD_inj (h1.1.symm.trans h2.1)
   have e2 := quoteL_inj (h1.2.symm.trans h2.2)
   rw [tx_inj e2, show to = to' by omega]
theorem line_pre {x y : I3} {r q : List UInt8} (hx : okI x = true) (hy : okI y = true) (h : lineL x ++ r = lineL y ++ q) : x = y ∧ r = q := by
 rw [line_body, line_body, List.append_assoc, List.append_assoc] at h
 obtain ⟨h1, h2⟩ := split10 (body_no10 x) (body_no10 y) h
 exact ⟨body_inj hx hy h1, h2⟩
theorem line_ne (x : I3) : lineL x ≠ [] := by rw [line_body]; simp
theorem lines_pre {is js : List I3} {R : List UInt8} (hi : is.all okI = true) (hj : js.all okI = true) (h : is.flatMap lineL ++ R = js.flatMap lineL) : ∃ r, R = r.flatMap lineL ∧ js = is ++ r := by
 induction is generalizing js with
 | nil => exact ⟨js, by simpa using h, rfl⟩
 | cons x is ih =>
   simp only [List.all_cons, Bool.and_eq_true] at hi
   cases js with
   | nil =>
     have := line_ne x
     simp at h
     exact absurd h.1 this
   | cons y js =>
     simp only [List.all_cons, Bool.and_eq_true] at hj
     simp only [List.flatMap_cons, List.append_assoc] at h
     obtain ⟨rfl, h2⟩ := line_pre hi.1 hj.1 h
     obtain ⟨r, hr, hl⟩ := ih hi.2 hj.2 h2
     exact ⟨r, hr, by rw [hl]; rfl⟩
theorem lines_inj {is js : List I3} (hi : is.all okI = true) (hj : js.all okI = true) (h : is.flatMap lineL = js.flatMap lineL) : is = js := by
 obtain ⟨r, hr, hl⟩ := lines_pre (R := []) hi hj (by simpa using h)
 cases r with
 | nil => simpa using hl.symm
 | cons y r =>
   have := line_ne y
   simp at hr
   exact absurd hr.1 this
theorem lines_ge (is : List I3) : is.length ≤ (is.flatMap lineL).length := by
 induction is with
 | nil => simp
 | cons x r ih =>
   have : 1 ≤ (lineL x).length := List.length_pos_iff.2 (line_ne x)
   simp only [List.flatMap_cons, List.length_append, List.length_cons]; omega
def IsRead (l : List UInt8) (is : List I3) (ok : Bool) : Prop := (ok = true → okT is = true ∧ is.flatMap lineL = l ∧ l.length ≤ 300) ∧ (ok = false → is = [] ∧ ∀ js, okT js = true → js.flatMap lineL = l → 300 < l.length)
theorem isRead_one {l : List UInt8} {is js : List I3} {a b : Bool} (h : IsRead l is a) (k : IsRead l js b) : is = js ∧ a = b := by
 cases a <;> cases b
 · exact ⟨(h.2 rfl).1.trans (k.2 rfl).1.symm, rfl⟩
 · obtain ⟨k1, k2, k3⟩ := k.1 rfl
   have := (h.2 rfl).2 js k1 k2; omega
 · obtain ⟨k1, k2, k3⟩ := h.1 rfl
   have := (k.2 rfl).2 is k1 k2; omega
 · obtain ⟨k1, k2, k3⟩ := k.1 rfl
   obtain ⟨h1, h2, h3⟩ := h.1 rfl
   exact ⟨lines_inj (okT_facts h1).2 (okT_facts k1).2 (h2.trans k2.symm), rfl⟩
def Way (l : List UInt8) (is : List I3) (r : List UInt8) : Prop := l = is.flatMap lineL ++ r ∧ is.all okI = true
theorem way_start (l : List UInt8) : Way l [] l := ⟨rfl, rfl⟩
theorem way_step {l : List UInt8} {is : List I3} {a r : List UInt8} {x : I3} (h : Way l is (a ++ 10 :: r)) (hx : okI x = true ∧ a = body x) : Way l (is ++ [x]) r := by
 refine ⟨?_, by rw [List.all_append, h.2]; simp [hx.1]⟩
 rw [h.1, List.flatMap_append, hx.2]
 simp [line_body]
theorem way_stuck {l : List UInt8} {is : List I3} {r : List UInt8} (h : Way l is r) (hr : r ≠ []) (hn : ∀ y q, okI y = true → r ≠ body y ++ 10 :: q) : IsRead l [] false := by
 refine ⟨(fun h => by cases h), fun _ => ⟨rfl, fun js hj e => ?_⟩⟩
 exfalso
 obtain ⟨q, hq, hl⟩ := lines_pre h.2 (okT_facts hj).2 (h.1.symm.trans e.symm)
 cases q with
 | nil => exact hr hq
 | cons y q =>
   have hy : okI y = true := by
    have := (okT_facts hj).2
    rw [hl, List.all_append, List.all_cons] at this
    simp only [Bool.and_eq_true] at this
    exact this.2.1
   apply hn y (q.flatMap lineL) hy
   rw [hq, List.flatMap_cons, line_body, List.append_assoc]
   rfl
theorem way_end {l : List UInt8} {is : List I3} (h : Way l is []) (h300 : l.length ≤ 300) : (okT is = true → IsRead l is true) ∧ (okT is = false → IsRead l [] false) := by
 have e : l = is.flatMap lineL := by simpa using h.1
 refine ⟨fun hk => ⟨fun _ => ⟨hk, e.symm, h300⟩, (fun h => by cases h)⟩, fun hk => ⟨(fun h => by cases h), fun _ => ⟨rfl, fun js hj ej => ?_⟩⟩⟩
 have := lines_inj (okT_facts hj).2 h.2 (ej.trans e)
 rw [this, hk] at hj
 cases hj
theorem read_long {l : List UInt8} (h : 300 < l.length) : IsRead l [] false := ⟨(fun h => by cases h), fun _ => ⟨rfl, fun _ _ _ => h⟩⟩
theorem way_len {l : List UInt8} {is : List I3} {r : List UInt8} (h : Way l is r) : is.length + r.length ≤ l.length ∧ ∀ i, (is.getD i i3z).tx.size ≤ 300 := by
 have h1 := lines_ge is
 have h2 := congrArg List.length h.1
 rw [List.length_append] at h2
 refine ⟨by omega, getD_small3 fun i hi => ?_⟩
 have := (okI_bad (get_ok h.2 hi)).2.2.2.2.2
 omega
theorem cut_10 (l : List UInt8) : ((Lib.cut l [10]).2.2 = true ∧ l = (Lib.cut l [10]).1 ++ 10 :: (Lib.cut l [10]).2.1 ∧ (10 : UInt8) ∉ (Lib.cut l [10]).1) ∨ ((Lib.cut l [10]).2.2 = false ∧ (Lib.cut l [10]).1 = l ∧ (10 : UInt8) ∉ l) := by
 unfold Lib.cut
 rw [Lib.index_one]
 have hge := Lib.indexByte_ge l 10
 by_cases h : Lib.indexByte l 10 = -1
 · rw [h, if_neg (by omega)]
   refine .inr ⟨rfl, rfl, fun hm => ?_⟩
   obtain ⟨k, hk, e⟩ := List.getElem_of_mem hm
   exact Lib.indexByte_none h k (by rw [List.getElem?_eq_getElem hk, e])
 · obtain ⟨o, ho⟩ : ∃ o : Nat, Lib.indexByte l 10 = o := ⟨(Lib.indexByte l 10).toNat, by omega⟩
   obtain ⟨h1, h2⟩ := Lib.indexByte_some ho
   have hl : o < l.length := by
    rcases Nat.lt_or_ge o l.length with h | h
    · exact h
    · rw [List.getElem?_eq_none h] at h1; cases h1
   rw [ho, if_pos (by omega)]
   refine .inl ⟨rfl, ?_, fun hm => ?_⟩
   · simp only [Int.toNat_natCast, List.length_singleton]
     have hx : l[o] = 10 := by rw [List.getElem?_eq_getElem hl] at h1; exact Option.some.inj h1
     conv => lhs; rw [← List.take_append_drop o l, List.drop_eq_getElem_cons hl, hx]
   · simp only [Int.toNat_natCast] at hm
     obtain ⟨k, hk, e⟩ := List.getElem_of_mem hm
     rw [List.length_take] at hk
     rw [List.getElem_take] at e
     exact h2 k (by omega) (by rw [List.getElem?_eq_getElem (by omega), e])
def insCells (is : List I3) : List Value := is.flatMap fun x => [.int .i64 x.op, .string x.tx, .int .i64 x.to]
theorem insCells_snoc (is : List I3) (x : I3) : insCells (is ++ [x]) = insCells is ++ [.int .i64 x.op, .string x.tx, .int .i64 x.to] := by simp [insCells]
theorem insCells_get (is : List I3) (i : Nat) (h : i < is.length) : (insCells is)[i * 3]? = some (.int .i64 (is.getD i i3z).op) ∧ (insCells is)[i * 3 + 1]? = some (.string (is.getD i i3z).tx) ∧ (insCells is)[i * 3 + 2]? = some (.int .i64 (is.getD i i3z).to) := by
 induction is generalizing i with
 | nil => simp at h
 | cons x r ih =>
   cases i with
   | zero => exact ⟨rfl, rfl, rfl⟩
   | succ i =>
     have := ih i (by simpa using h)
     have e : ∀ j, (insCells (x :: r))[(i + 1) * 3 + j]? = (insCells r)[i * 3 + j]? := fun j => by
      show ([Value.int .i64 x.op, .string x.tx, .int .i64 x.to] ++ insCells r)[(i + 1) * 3 + j]? = _
      rw [List.getElem?_append_right (by simp; omega)]
      congr 1
      simp; omega
     have e0 := e 0
     simp only [Nat.add_zero] at e0
     rw [e0, e 1, e 2]
     exact this
theorem own3_form {w : World} {base : Nat} {v : Value} {is : List I3} (h : w.ownsRow base 122 3 v is.length (insCells is)) : ∃ a cap, v = .slice a is.length cap ∧ InsAt w a is := by
 have h' := h
 rcases h.2 with ⟨hv, h0⟩ | ⟨g, cap, cur, hv, hg, hh, _⟩
 · exact ⟨none, 0, by rw [hv, h0], .inl (List.length_eq_zero_iff.1 h0)⟩
 · refine ⟨some ⟨g, 0, none⟩, cap, hv, ?_⟩
   subst hv
   refine .inr ⟨g, 0, rfl, blk_lt hh, fun i hi => ?_⟩
   obtain ⟨e0, e1, e2⟩ := insCells_get is i hi
   rw [Nat.zero_add, h'.cellAt _ (by omega), h'.cellAt _ (by omega), h'.cellAt _ (by omega)]
   exact ⟨e0, e1, e2⟩
end Go.Proofs.YtpjpckmfehfniaaGreatDoor
namespace Go.Proofs
open Go.Shelf
def Tryz.lays137_ren : Go.Shelf.Ren := ⟨fun | 137 => 201 | 217 => 193 | 266 => 212 | n => n, fun | 9 => 9 | 5 => 5 | 3 => 3 | n => n, fun | n => n⟩
theorem Tryz.lays137 : Go.Proofs.Lays.n137 Tryz.prog Tryz.lays137_ren := {
 mixed := by kernel_rfl
 f137 := Tryz.func201.trans (congrArg some (by kernel_rfl))
 f217 := Tryz.func193.trans (congrArg some (by kernel_rfl))
 f266 := Tryz.func212.trans (congrArg some (by kernel_rfl))
 t3 := Tryz.underlying3
 a3 := Tryz.isAgg3
 z3 := Tryz.sizeOf3
 v3 := Tryz.zeroValue3
 t5 := Tryz.underlying5
 a5 := Tryz.isAgg5
 z5 := Tryz.sizeOf5
 v5 := Tryz.zeroValue5
 t9 := Tryz.underlying9
 a9 := Tryz.isAgg9
 z9 := Tryz.sizeOf9
 v9 := Tryz.zeroValue9 }
theorem Tryz.strings_IndexByte (s : ByteArray) (c : Int) (w : World) :
 Calls Tryz.prog 201 #[.string s, .int .u8 c] w fun e w' => e = .returned (.int .i64 (Lib.indexByte s.data.toList c.toNat.toUInt8)) ∧ w' = w := Any.strings_IndexByte Tryz.lays137 s c w
def Tryz.lays145_ren : Go.Shelf.Ren := ⟨fun | 145 => 121 | 220 => 135 | 219 => 166 | 217 => 193 | 225 => 194 | 224 => 195 | 267 => 196 | 266 => 212 | 314 => 213 | n => n, fun | 9 => 9 | 4 => 4 | 59 => 166 | 3 => 3 | 5 => 5 | 46 => 181 | 146 => 251 | 51 => 250 | n => n, fun | 1 => 1 | n => n⟩
theorem Tryz.lays145 : Go.Proofs.Lays.n145 Tryz.prog Tryz.lays145_ren := {
 mixed := by kernel_rfl
 f145 := Tryz.func121.trans (congrArg some (by kernel_rfl))
 f217 := Tryz.func193.trans (congrArg some (by kernel_rfl))
 f219 := Tryz.func166.trans (congrArg some (by kernel_rfl))
 f220 := Tryz.func135.trans (congrArg some (by kernel_rfl))
 f224 := Tryz.func195.trans (congrArg some (by kernel_rfl))
 f225 := Tryz.func194.trans (congrArg some (by kernel_rfl))
 f266 := Tryz.func212.trans (congrArg some (by kernel_rfl))
 f267 := Tryz.func196.trans (congrArg some (by kernel_rfl))
 f314 := Tryz.func213.trans (congrArg some (by kernel_rfl))
 t3 := Tryz.underlying3
 a3 := Tryz.isAgg3
 z3 := Tryz.sizeOf3
 v3 := Tryz.zeroValue3
 t4 := Tryz.underlying4
 a4 := Tryz.isAgg4
 z4 := Tryz.sizeOf4
 v4 := Tryz.zeroValue4
 t5 := Tryz.underlying5
 a5 := Tryz.isAgg5
 z5 := Tryz.sizeOf5
 v5 := Tryz.zeroValue5
 t9 := Tryz.underlying9
 a9 := Tryz.isAgg9
 z9 := Tryz.sizeOf9
 v9 := Tryz.zeroValue9
 t46 := Tryz.underlying181
 a46 := Tryz.isAgg181
 z46 := Tryz.sizeOf181
 v46 := Tryz.zeroValue181
 t51 := Tryz.underlying250
 a51 := Tryz.isAgg250
 z51 := Tryz.sizeOf250
 v51 := Tryz.zeroValue250
 t59 := Tryz.underlying166
 a59 := Tryz.isAgg166
 z59 := Tryz.sizeOf166
 v59 := Tryz.zeroValue166
 t146 := Tryz.underlying251
 a146 := Tryz.isAgg251
 z146 := Tryz.sizeOf251
 v146 := Tryz.zeroValue251
 g1 := by kernel_rfl }
theorem Tryz.strings_Cut (s sep : ByteArray) (m : Int) (w : World) (hs : s.size < 4294967281) (hm : w.cell? ⟨1, 0, none⟩ = some (.int .i64 m)) :
 Calls Tryz.prog 121 #[.string s, .string sep] w fun e w' => e = .returned (.tuple #[.string ⟨(Lib.cut s.data.toList sep.data.toList).1.toArray⟩, .string ⟨(Lib.cut s.data.toList sep.data.toList).2.1.toArray⟩, .bool (Lib.cut s.data.toList sep.data.toList).2.2]) ∧ ∃ n, w' = w.drewN n := Any.strings_Cut Tryz.lays145 s sep m w hs hm
def Tryz.lays147_ren : Go.Shelf.Ren := ⟨fun | 147 => 137 | 221 => 167 | 268 => 197 | 138 => 198 | 143 => 199 | 195 => 214 | 197 => 215 | 218 => 216 | 219 => 166 | 260 => 224 | 217 => 193 | 225 => 194 | 224 => 195 | 267 => 196 | 266 => 212 | 314 => 213 | n => n, fun | 9 => 9 | 3 => 3 | 31 => 124 | 4 => 4 | 0 => 0 | 105 => 253 | 21 => 21 | 5 => 5 | 46 => 181 | 119 => 269 | 139 => 272 | 138 => 271 | 146 => 251 | 51 => 250 | n => n, fun | 1 => 1 | 3 => 3 | 4 => 4 | n => n⟩
theorem Tryz.lays147 : Go.Proofs.Lays.n147 Tryz.prog Tryz.lays147_ren := {
 mixed := by kernel_rfl
 f138 := Tryz.func198.trans (congrArg some (by kernel_rfl))
 f143 := Tryz.func199.trans (congrArg some (by kernel_rfl))
 f147 := Tryz.func137.trans (congrArg some (by kernel_rfl))
 f195 := Tryz.func214.trans (congrArg some (by kernel_rfl))
 f197 := Tryz.func215.trans (congrArg some (by kernel_rfl))
 f217 := Tryz.func193.trans (congrArg some (by kernel_rfl))
 f218 := Tryz.func216.trans (congrArg some (by kernel_rfl))
 f219 := Tryz.func166.trans (congrArg some (by kernel_rfl))
 f221 := Tryz.func167.trans (congrArg some (by kernel_rfl))
 f224 := Tryz.func195.trans (congrArg some (by kernel_rfl))
 f225 := Tryz.func194.trans (congrArg some (by kernel_rfl))
 f260 := Tryz.func224.trans (congrArg some (by kernel_rfl))
 f266 := Tryz.func212.trans (congrArg some (by kernel_rfl))
 f267 := Tryz.func196.trans (congrArg some (by kernel_rfl))
 f268 := Tryz.func197.trans (congrArg some (by kernel_rfl))
 f314 := Tryz.func213.trans (congrArg some (by kernel_rfl))
 t0 := Tryz.underlying0
 a0 := Tryz.isAgg0
 z0 := Tryz.sizeOf0
 v0 := Tryz.zeroValue0
 t3 := Tryz.underlying3
 a3 := Tryz.isAgg3
 z3 := Tryz.sizeOf3
 v3 := Tryz.zeroValue3
 t4 := Tryz.underlying4
 a4 := Tryz.isAgg4
 z4 := Tryz.sizeOf4
 v4 := Tryz.zeroValue4
 t5 := Tryz.underlying5
 a5 := Tryz.isAgg5
 z5 := Tryz.sizeOf5
 v5 := Tryz.zeroValue5
 t9 := Tryz.underlying9
 a9 := Tryz.isAgg9
 z9 := Tryz.sizeOf9
 v9 := Tryz.zeroValue9
 t21 := Tryz.underlying21
 a21 := Tryz.isAgg21
 z21 := Tryz.sizeOf21
 v21 := Tryz.zeroValue21
 t31 := Tryz.underlying124
 a31 := Tryz.isAgg124
 z31 := Tryz.sizeOf124
 v31 := Tryz.zeroValue124
 t46 := Tryz.underlying181
 a46 := Tryz.isAgg181
 z46 := Tryz.sizeOf181
 v46 := Tryz.zeroValue181
 t51 := Tryz.underlying250
 a51 := Tryz.isAgg250
 z51 := Tryz.sizeOf250
 v51 := Tryz.zeroValue250
 t105 := Tryz.underlying253
 a105 := Tryz.isAgg253
 z105 := Tryz.sizeOf253
 v105 := Tryz.zeroValue253
 t119 := Tryz.underlying269
 a119 := Tryz.isAgg269
 z119 := Tryz.sizeOf269
 t138 := Tryz.underlying271
 a138 := Tryz.isAgg271
 z138 := Tryz.sizeOf271
 v138 := Tryz.zeroValue271
 t139 := Tryz.underlying272
 a139 := Tryz.isAgg272
 z139 := Tryz.sizeOf272
 v139 := Tryz.zeroValue272
 t146 := Tryz.underlying251
 a146 := Tryz.isAgg251
 z146 := Tryz.sizeOf251
 v146 := Tryz.zeroValue251
 g1 := by kernel_rfl
 g3 := by kernel_rfl
 g4 := by kernel_rfl }
theorem Tryz.strings_SplitN (s sep : ByteArray) (n : Nat) (m : Int) (w : World) (hs : s.size < 4294967281) (hm : w.cell? ⟨1, 0, none⟩ = some (.int .i64 m)) (h1 : 1 ≤ sep.size) (hn : 1 ≤ n) (hn63 : n ≤ 9223372036854775807) :
 Calls Tryz.prog 137 #[.string s, .string sep, .int .i64 n] w fun e w' =>
  e = .returned (.slice (some ⟨w.heap.size, 0, none⟩) (Lib.splitB sep 0 (min n (s.size + 1) - 1) s).length (min n (s.size + 1))) ∧ w' = w.alloc (.cells (Lib.cellsOf (Lib.splitB sep 0 (min n (s.size + 1) - 1) s) (min n (s.size + 1))) 9) := Any.strings_SplitN Tryz.lays147 (by kernel_rfl) s sep n m w hs hm h1 hn hn63
def Tryz.lays146_ren : Go.Shelf.Ren := ⟨fun | 146 => 187 | 221 => 167 | 268 => 197 | 138 => 198 | 143 => 199 | 195 => 214 | 197 => 215 | 218 => 216 | 219 => 166 | 260 => 224 | 217 => 193 | 225 => 194 | 224 => 195 | 267 => 196 | 266 => 212 | 314 => 213 | n => n, fun | 9 => 9 | 31 => 124 | 3 => 3 | 4 => 4 | 0 => 0 | 105 => 253 | 21 => 21 | 5 => 5 | 46 => 181 | 119 => 269 | 139 => 272 | 138 => 271 | 146 => 251 | 51 => 250 | n => n, fun | 1 => 1 | 3 => 3 | 4 => 4 | n => n⟩
theorem Tryz.lays146 : Go.Proofs.Lays.n146 Tryz.prog Tryz.lays146_ren := {
 mixed := by kernel_rfl
 f138 := Tryz.func198.trans (congrArg some (by kernel_rfl))
 f143 := Tryz.func199.trans (congrArg some (by kernel_rfl))
 f146 := Tryz.func187.trans (congrArg some (by kernel_rfl))
 f195 := Tryz.func214.trans (congrArg some (by kernel_rfl))
 f197 := Tryz.func215.trans (congrArg some (by kernel_rfl))
 f217 := Tryz.func193.trans (congrArg some (by kernel_rfl))
 f218 := Tryz.func216.trans (congrArg some (by kernel_rfl))
 f219 := Tryz.func166.trans (congrArg some (by kernel_rfl))
 f221 := Tryz.func167.trans (congrArg some (by kernel_rfl))
 f224 := Tryz.func195.trans (congrArg some (by kernel_rfl))
 f225 := Tryz.func194.trans (congrArg some (by kernel_rfl))
 f260 := Tryz.func224.trans (congrArg some (by kernel_rfl))
 f266 := Tryz.func212.trans (congrArg some (by kernel_rfl))
 f267 := Tryz.func196.trans (congrArg some (by kernel_rfl))
 f268 := Tryz.func197.trans (congrArg some (by kernel_rfl))
 f314 := Tryz.func213.trans (congrArg some (by kernel_rfl))
 t0 := Tryz.underlying0
 a0 := Tryz.isAgg0
 z0 := Tryz.sizeOf0
 v0 := Tryz.zeroValue0
 t3 := Tryz.underlying3
 a3 := Tryz.isAgg3
 z3 := Tryz.sizeOf3
 v3 := Tryz.zeroValue3
 t4 := Tryz.underlying4
 a4 := Tryz.isAgg4
 z4 := Tryz.sizeOf4
 v4 := Tryz.zeroValue4
 t5 := Tryz.underlying5
 a5 := Tryz.isAgg5
 z5 := Tryz.sizeOf5
 v5 := Tryz.zeroValue5
 t9 := Tryz.underlying9
 a9 := Tryz.isAgg9
 z9 := Tryz.sizeOf9
 v9 := Tryz.zeroValue9
 t21 := Tryz.underlying21
 a21 := Tryz.isAgg21
 z21 := Tryz.sizeOf21
 v21 := Tryz.zeroValue21
 t31 := Tryz.underlying124
 a31 := Tryz.isAgg124
 z31 := Tryz.sizeOf124
 v31 := Tryz.zeroValue124
 t46 := Tryz.underlying181
 a46 := Tryz.isAgg181
 z46 := Tryz.sizeOf181
 v46 := Tryz.zeroValue181
 t51 := Tryz.underlying250
 a51 := Tryz.isAgg250
 z51 := Tryz.sizeOf250
 v51 := Tryz.zeroValue250
 t105 := Tryz.underlying253
 a105 := Tryz.isAgg253
 z105 := Tryz.sizeOf253
 v105 := Tryz.zeroValue253
 t119 := Tryz.underlying269
 a119 := Tryz.isAgg269
 z119 := Tryz.sizeOf269
 t138 := Tryz.underlying271
 a138 := Tryz.isAgg271
 z138 := Tryz.sizeOf271
 v138 := Tryz.zeroValue271
 t139 := Tryz.underlying272
 a139 := Tryz.isAgg272
 z139 := Tryz.sizeOf272
 v139 := Tryz.zeroValue272
 t146 := Tryz.underlying251
 a146 := Tryz.isAgg251
 z146 := Tryz.sizeOf251
 v146 := Tryz.zeroValue251
 g1 := by kernel_rfl
 g3 := by kernel_rfl
 g4 := by kernel_rfl }
theorem Tryz.strings_Split (s sep : ByteArray) (m : Int) (w : World) (hs : s.size < 4294967281) (hm : w.cell? ⟨1, 0, none⟩ = some (.int .i64 m)) (h1 : 1 ≤ sep.size) :
 Calls Tryz.prog 187 #[.string s, .string sep] w fun e w' =>
  e = .returned (.slice (some ⟨w.heap.size, 0, none⟩) (Lib.countB s sep + 1) (Lib.countB s sep + 1)) ∧ w' = w.alloc (.cells ((Lib.splitB sep 0 (Lib.countB s sep) s).map Value.string).toArray 9) := Any.strings_Split Tryz.lays146 (by kernel_rfl) s sep m w hs hm h1
end Go.Proofs
namespace Go.Proofs.YtpjpckmfehfniaaGreatDoor
open Go.RowKit
def hx (b : UInt8) : Int := if 48 ≤ (b.toNat : Int) ∧ (b.toNat : Int) ≤ 57 then (b.toNat : Int) - 48 else if 97 ≤ (b.toNat : Int) ∧ (b.toNat : Int) ≤ 102 then (b.toNat : Int) - 97 + 10 else -1
theorem ret_i {a b : Int} (h : a = b) : Ending.returned (.int .i64 a) = .returned (.int .i64 b) := by rw [h]
set_option maxHeartbeats 400000 in
theorem c118 (c : UInt8) (w : World) :
 Calls Tryz.prog 118 #[.int .u8 c.toNat] w fun e w' => e = .returned (.int .i64 (hx c)) ∧ w' = w := by
 have hc := u8_lt c
 have HX : Hid (hx c = if 48 ≤ (c.toNat : Int) ∧ (c.toNat : Int) ≤ 57 then (c.toNat : Int) - 48 else if 97 ≤ (c.toNat : Int) ∧ (c.toNat : Int) ≤ 102 then (c.toNat : Int) - 97 + 10 else -1) := rfl
 generalize (c.toNat : Int) = n at *
 go_enter Tryz.func118, Tryz.ntmps118
 go_wp2
 all_goals go_ret
 all_goals refine ⟨ret_i ?_, rfl⟩
 all_goals rw [HX.out]
 all_goals (repeat' split)
 all_goals omega
theorem hex_index (b : UInt8) : (Lib.indexByte hexL b = -1 ∧ ∀ n, n < 16 → hexL.getD n 0 ≠ b) ∨ ∃ n : Nat, n < 16 ∧ Lib.indexByte hexL b = n ∧ hexL.getD n 0 = b := by
 have hge := Lib.indexByte_ge hexL b
 by_cases h : Lib.indexByte hexL b = -1
 · refine .inl ⟨h, fun n hn e => Lib.indexByte_none h n ?_⟩
   have hl : n < hexL.length := hn
   rw [← e]
   simp [List.getD, List.getElem?_eq_getElem hl]
 · obtain ⟨o, ho⟩ : ∃ o : Nat, Lib.indexByte hexL b = o := ⟨(Lib.indexByte hexL b).toNat, by omega⟩
   obtain ⟨h1, _⟩ := Lib.indexByte_some ho
   have hl : o < hexL.length := by
    rcases Nat.lt_or_ge o hexL.length with h | h
    · exact h
    · rw [List.getElem?_eq_none h] at h1; cases h1
   exact .inr ⟨o, hl, ho, by simp [List.getD, h1]⟩
theorem c201 (b : UInt8) (w : World) :
 Calls Tryz.prog 201 #[.string ⟨#[48, 49, 50, 51, 52, 53, 54, 55, 56, 57, 97, 98, 99, 100, 101, 102]⟩, .int .u8 b.toNat] w fun e w' => e = .returned (.int .i64 (Lib.indexByte hexL b)) ∧ w' = w := by
 refine (Tryz.strings_IndexByte _ _ w).mono ?_
 rintro e w' ⟨rfl, rfl⟩
 refine ⟨ret_i ?_, rfl⟩
 have e1 : (b.toNat : Int).toNat.toUInt8 = b := by simp
 rw [e1]
 rfl
theorem ret_u8b {a b : Int} {x y : Bool} (h : a = b) (h' : x = y) : Ending.returned (.tuple #[.int .u8 a, .bool x]) = .returned (.tuple #[.int .u8 b, .bool y]) := by rw [h, h']
def Unesc (l : List UInt8) (c : UInt8) (ok : Bool) : Prop := (ok = true → plainB c = false ∧ ∃ r, l = qb c ++ r) ∧ (ok = false → ∀ d r, plainB d = false → l ≠ qb d ++ r)
theorem or_form0 : ∀ h l : Fin 16, bits BinOp.or IntKind.i64 (((h.val : Nat) : Int) * 16) ((l.val : Nat) : Int) = 16 * ((h.val : Nat) : Int) + ((l.val : Nat) : Int) := by decide +kernel
theorem or_form (h l : Nat) (hh : h < 16) (hl : l < 16) : bits BinOp.or IntKind.i64 ((h : Int) * 16) (l : Int) % 256 = ((UInt8.ofNat (16 * h + l)).toNat : Int) := by
 have := or_form0 ⟨h, hh⟩ ⟨l, hl⟩
 simp only at this
 rw [this]
 simp
theorem ofNat_parts (h l : Nat) (hh : h < 16) (hl : l < 16) : (UInt8.ofNat (16 * h + l)).toNat / 16 = h ∧ (UInt8.ofNat (16 * h + l)).toNat % 16 = l := by
 have e : (UInt8.ofNat (16 * h + l)).toNat = 16 * h + l := by simp; omega
 rw [e]; omega
theorem list3_of (s : ByteArray) (h : 2 < s.size) : ∃ r, s.data.toList = s[0] :: s[1] :: s[2] :: r := by
 have hl : s.data.toList.length = s.size := by simp
 have g : ∀ (k : Nat) (hk : k < s.size), s.data.toList[k]'(by simpa using hk) = s[k] := fun k hk => by simp [ByteArray.getElem_eq_getElem_data]
 rcases hd : s.data.toList with _ | ⟨a, _ | ⟨b, _ | ⟨c, r⟩⟩⟩
 · rw [hd] at hl; simp at hl; omega
 · rw [hd] at hl; simp at hl; omega
 · rw [hd] at hl; simp at hl; omega
 · have g0 := g 0 (by omega)
   have g1 := g 1 (by omega)
   have g2 := g 2 h
   simp only [hd, List.getElem_cons_zero, List.getElem_cons_succ] at g0 g1 g2
   exact ⟨r, by rw [← g0, ← g1, ← g2]⟩
theorem unesc_no {s : ByteArray} (h : 2 < s.size) (hn : s[0] ≠ 92 ∨ (∀ n, n < 16 → hexL.getD n 0 ≠ s[1]) ∨ (∀ n, n < 16 → hexL.getD n 0 ≠ s[2])) (c : UInt8) : Unesc s.data.toList c false := by
 refine ⟨(fun h => by cases h), fun _ d r hd e => ?_⟩
 obtain ⟨q, hq⟩ := list3_of s h
 rw [hq, qb_not hd] at e
 simp only [List.cons_append, List.nil_append, List.cons.injEq] at e
 have ld := u8_lt d
 rcases hn with hn | hn | hn
 · exact hn e.1
 · exact hn _ (by omega) e.2.1.symm
 · exact hn _ (by omega) e.2.2.1.symm
def Is88 (l : List UInt8) (e : Ending) : Prop := ∃ c ok, e = .returned (.tuple #[.int .u8 (c : UInt8).toNat, .bool ok]) ∧ Unesc l c ok
set_option maxHeartbeats 1000000 in
theorem c170 (s : ByteArray) (w : World) (hs : s.size ≤ 1048700) :
 Calls Tryz.prog 170 #[.string s] w fun e w' => Is88 s.data.toList e ∧ w' = w := by
 by_cases h3 : s.size < 3
 · have HU : Hid (Unesc s.data.toList 0 false) := by
    refine ⟨(fun h => by cases h), fun _ d r hd e => ?_⟩
    have := congrArg List.length e
    rw [qb_not hd] at this
    simp at this
    omega
   go_enter Tryz.func170, Tryz.ntmps170
   go_wp2
   go_ret2
   exact ⟨⟨0, false, rfl, HU.out⟩, rfl⟩
 · have hz0 : 0 < s.size := by omega
   have hz1 : 1 < s.size := by omega
   have hz2 : 2 < s.size := by omega
   by_cases h92 : s[0] = 92
   · have e0 : ((s[0].toNat : Int) != 92) = false := by rw [h92]; rfl
     have H92 : Hid (s[0] = 92) := h92
     clear h92
     go_enter Tryz.func170, Tryz.ntmps170
     go_wp2_with fail
     refine (c201 _ _).mono ?_
     rintro e w' ⟨rfl, rfl⟩
     go_wp2_with fail
     refine (c201 _ _).mono ?_
     rintro e w' ⟨rfl, rfl⟩
     rcases hex_index s[1] with ⟨hi, hin⟩ | ⟨h, hh, hi, hin⟩
     · have HU : Hid (Unesc s.data.toList 0 false) := unesc_no hz2 (.inr (.inl hin)) 0
       clear hin
       rw [hi]
       go_wp2
       go_ret2
       exact ⟨⟨0, false, rfl, HU.out⟩, rfl⟩
     · rw [hi]
       rcases hex_index s[2] with ⟨lo, lon⟩ | ⟨l, hl, lo, lon⟩
       · have HU : Hid (Unesc s.data.toList 0 false) := unesc_no hz2 (.inr (.inr lon)) 0
         clear hin lon
         rw [lo]
         go_wp2
         go_ret2
         exact ⟨⟨0, false, rfl, HU.out⟩, rfl⟩
       · rw [lo]
         have ho := or_form h l hh hl
         obtain ⟨p1, p2⟩ := ofNat_parts h l hh hl
         have HQ : Hid (plainB (UInt8.ofNat (16 * h + l)) = false → qb (UInt8.ofNat (16 * h + l)) = ([92, s[1], s[2]] : List UInt8)) := fun hp => by
          rw [qb_not hp, p1, p2, hin, lon]
         have HV : Hid (plainB (UInt8.ofNat (16 * h + l)) = true → ∀ d r, plainB d = false → s.data.toList ≠ qb d ++ r) := fun hp d r hd e => by
          obtain ⟨q, hq⟩ := list3_of s hz2
          rw [hq, qb_not hd] at e
          simp only [List.cons_append, List.nil_append, List.cons.injEq] at e
          have ld := u8_lt d
          have e1 := hexL_eq (by omega) hh (e.2.1.symm.trans hin.symm)
          have e2 := hexL_eq (by omega) hl (e.2.2.1.symm.trans lon.symm)
          have e3 : d = UInt8.ofNat (16 * h + l) := UInt8.toNat_inj.1 (by have := u8_lt (UInt8.ofNat (16 * h + l)); omega)
          rw [← e3, hd] at hp
          cases hp
         clear hin lon p1 p2
         generalize UInt8.ofNat (16 * h + l) = c at *
         go_wp2_with fail
         rw [ho]
         refine (c168 c _).mono ?_
         rintro e w' ⟨rfl, hw⟩
         obtain rfl := hw.symm
         cases hp : plainB c
         · have HU : Hid (Unesc s.data.toList c true) := by
            refine ⟨fun _ => ⟨hp, ?_⟩, (fun h => by cases h)⟩
            obtain ⟨q, hq⟩ := list3_of s hz2
            exact ⟨q, by rw [hq, HQ.out hp, H92.out]; rfl⟩
           clear hp
           go_wp2
           go_ret2
           exact ⟨⟨c, true, ret_u8b rfl rfl, HU.out⟩, rfl⟩
         · have HU : Hid (Unesc s.data.toList 0 false) := ⟨(fun h => by cases h), fun _ => HV.out hp⟩
           clear hp
           go_wp2
           go_ret2
           exact ⟨⟨0, false, rfl, HU.out⟩, rfl⟩
   · have HU : Hid (Unesc s.data.toList 0 false) := unesc_no hz2 (.inl h92) 0
     have e0 : ((s[0].toNat : Int) != 92) = true := by
      simp only [bne_iff_ne]
      intro e
      exact h92 (UInt8.toNat_inj.1 (by have : s[0].toNat = 92 := by omega
                                       rw [this]; rfl))
     clear h92
     go_enter Tryz.func170, Tryz.ntmps170
     go_wp2
     go_ret2
     exact ⟨⟨0, false, rfl, HU.out⟩, rfl⟩
end Go.Proofs.YtpjpckmfehfniaaGreatDoor
