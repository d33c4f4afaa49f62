import Derived.Test.YtpjpckmfehfniaaGreatDoorZC19
import Derived.Deep.RegionLaw
import Derived.Deep.RegionHeld3
import Derived.Laws.Cover1
namespace Go.Proofs.YtpjpckmfehfniaaGreatDoor.M
open Go.RowKit
theorem div_form (n : Int) (h : 0 ≤ n) (h1 : n ≤ 100000000) : IntKind.i64.wrap (n.tdiv 10) = n / 10 := by
 rw [Int.tdiv_eq_ediv_of_nonneg h]
 simp [IntKind.wrap, IntKind.signed, IntKind.bits]; omega
theorem conv1 (u : World) (y : Int) : (convert 60 9 (.slice (some ⟨u.heap.size, 0, none⟩) 1 1)).run Tryz.prog (u.alloc (.cells #[.int .u8 y] 5)) = .ok (.string (strOfNums [y])) (u.alloc (.cells #[.int .u8 y] 5)) :=
 run_convert_bytes_arg _ 60 5 Tryz.underlying60 Tryz.underlying5 _ 0 1 1 [y] rfl (fun i hi => by
  obtain rfl : i = 0 := by omega
  simp) 9 Tryz.underlying9
theorem ofL_snoc (l : List UInt8) (x : Int) : ofL (l ++ [UInt8.ofNat x.toNat]) = ofL l ++ strOfNums [x] := by
 apply ByteArray.ext
 simp [ofL, strOfNums]
theorem convD (u : World) (y : Int) : (convert 60 9 (.slice (some ⟨u.heap.size, 0, none⟩) 1 1)).run Tryz.prog (u.alloc (.cells #[.int .u8 y] 5)).drew = .ok (.string (strOfNums [y])) (u.alloc (.cells #[.int .u8 y] 5)).drew :=
 run_convert_bytes_arg _ 60 5 Tryz.underlying60 Tryz.underlying5 _ 0 1 1 [y] rfl (fun i hi => by
  obtain rfl : i = 0 := by omega
  simp) 9 Tryz.underlying9
theorem convB {u w1 : World} {y : Int} (hb : Below (u.alloc (.cells #[.int .u8 y] 5)).drew.heap.size (u.alloc (.cells #[.int .u8 y] 5)).drew w1) :
 (convert 60 9 (.slice (some ⟨u.heap.size, 0, none⟩) 1 1)).run Tryz.prog w1 = .ok (.string (strOfNums [y])) w1 :=
 run_convert_bytes_arg _ 60 5 Tryz.underlying60 Tryz.underlying5 _ 0 1 1 [y] rfl (fun i hi => by
  obtain rfl : i = 0 := by omega
  rw [hb.cell (by simp)]
  simp) 9 Tryz.underlying9
set_option maxRecDepth 100000 in
set_option maxHeartbeats 4000000 in
theorem c77 (f : Nat) : ∀ (n : Int) (w : World), 0 ≤ n → n ≤ 100000000 → n.toNat < f →
 Calls Tryz.prog 77 #[.int .i64 n] w fun e w' => e = .returned (.string (ofL (dec n))) ∧ Below w.heap.size w w' := by
 induction f with
 | zero => intro n w _ _ h; omega
 | succ f ih =>
   intro n w h0 h1 hf
   have hcv := conv1
   have hcd := convD
   have hz : ∀ y, (strOfNums [y]).size = 1 := fun y => strOfNums_size [y]
   by_cases h : n < 10
   · go_enter Tryz.func77, Tryz.ntmps77
     go_wp2
     go_ret
     exact ⟨by rw [dec_lt n h]; rfl, (Below.refl _ _).alloc (Nat.le_refl _) _⟩
   · have hq : (ofL (dec (n / 10))).size ≤ 100000001 := by rw [ofL_size]; exact dec_len _ (by omega) (by omega)
     have H : Hid (∀ w, Calls Tryz.prog 77 #[.int .i64 (IntKind.i64.wrap (n.tdiv 10))] w fun e w' => e = .returned (.string (ofL (dec (n / 10)))) ∧ Below w.heap.size w w') := by
      rw [div_form n h0 h1]
      exact fun w => ih (n / 10) w (by omega) (by omega) (by omega)
     have HD : Hid (Ending.returned (.string (ofL (dec (n / 10)) ++ strOfNums [48 + n % 10])) = .returned (.string (ofL (dec n)))) := by
      rw [dec_ge n (by omega), ofL_snoc]; rfl
     clear ih
     go_enter Tryz.func77, Tryz.ntmps77
     go_wp2_with fail
     go_region_with (go_at_call 77; refine (H.out _).mono ?_; rintro e w1 ⟨rfl, hb1⟩; (try (have hcb := convB hb1)))
     all_goals go_wp2
     all_goals go_ret
     all_goals refine ⟨?_, ?_⟩
     all_goals first
      | exact HD.out
      | exact (((Below.refl w.heap.size w).drew).trans hb1).alloc hb1.size _
      | exact (((Below.refl w.heap.size w).alloc (Nat.le_refl _) _).drew).trans (hb1.mono (by simp))
end Go.Proofs.YtpjpckmfehfniaaGreatDoor.M
namespace Go.Proofs.YtpjpckmfehfniaaGreatDoor.M
open Go.RowKit
structure L4 where
 has : Bool
 nm : ByteArray
 cd : Int
 tx : ByteArray
def l4z : L4 := ⟨false, ⟨#[]⟩, 0, ⟨#[]⟩⟩
def L4.le (x : L4) (B : Nat) : Prop := x.nm.size ≤ B ∧ x.tx.size ≤ B
def LksAt (w : World) (a : Option Addr) (is : List L4) : Prop :=
 is = [] ∨ ∃ b off, a = some ⟨b, off, none⟩ ∧ b < w.heap.size ∧ ∀ i, i < is.length → w.cell? ⟨b, off + i * 4, none⟩ = some (.bool (is.getD i l4z).has) ∧ w.cell? ⟨b, off + i * 4 + 1, none⟩ = some (.string (is.getD i l4z).nm) ∧ w.cell? ⟨b, off + i * 4 + 2, none⟩ = some (.int .i64 (is.getD i l4z).cd) ∧ w.cell? ⟨b, off + i * 4 + 3, none⟩ = some (.string (is.getD i l4z).tx)
set_option maxHeartbeats 400000 in
theorem c72 (cd : Int) (tx : ByteArray) (l : Int) (w : World) (hs : tx.size ≤ 9223372036854775807) (h0 : 0 ≤ l) (h1 : l ≤ 1048576) :
 Calls Tryz.prog 72 #[.agg #[.int .i64 cd, .string tx], .int .i64 l] w fun e w' => (∃ r : Int, e = .returned (.int .i64 r) ∧ (0 ≤ r → tx.size ≤ 1048576 ∧ r ≤ 1048576)) ∧ Below w.heap.size w w' := by
 by_cases h' : l < tx.size
 · go_enter Tryz.func72, Tryz.ntmps72
   go_wp2
   go_ret
   exact ⟨⟨-1, rfl, fun h => by omega⟩, (Below.refl _ _).alloc (Nat.le_refl _) _⟩
 · go_enter Tryz.func72, Tryz.ntmps72
   go_wp2
   go_ret
   exact ⟨⟨_, rfl, fun h => by omega⟩, (Below.refl _ _).alloc (Nat.le_refl _) _⟩
set_option maxHeartbeats 400000 in
theorem c86 (cd : Int) (tx : ByteArray) (w : World) :
 Calls Tryz.prog 86 #[.agg #[.int .i64 cd, .string tx]] w fun e w' => e = .returned (.agg #[.int .i64 cd, .string tx]) ∧ Below w.heap.size w w' := by
 go_enter Tryz.func86, Tryz.ntmps86
 go_wp2
 refine bodyPost_ret (v := .agg #[.int .i64 cd, .string tx]) (by simp [results, Tryz.results86, go_sem]) rfl ⟨rfl, ?_⟩
 exact (((Below.refl _ _).alloc (Nat.le_refl _) _).alloc (by simp) _).alloc (by simp; omega) _
set_option maxHeartbeats 400000 in
theorem c42 (cd : Int) (tx : ByteArray) (w : World) :
 Calls Tryz.prog 42 #[.agg #[.int .i64 cd, .string tx], .agg #[.int .i64 cd, .string tx]] w fun e w' => e = .returned (.bool true) ∧ Below w.heap.size w w' := by
 go_enter Tryz.func42, Tryz.ntmps42
 go_wp2
 go_ret
 exact ⟨rfl, ((Below.refl _ _).alloc (Nat.le_refl _) _).alloc (by simp) _⟩
set_option maxHeartbeats 1000000 in
theorem c31 (x : L4) (l : Int) (w : World) (hs : x.le 9223372036854775807) (h0 : 0 ≤ l) (h1 : l ≤ 1048576) :
 Calls Tryz.prog 31 #[.agg #[.bool x.has, .string x.nm, .int .i64 x.cd, .string x.tx], .int .i64 l] w fun e w' => (∃ r : Int, e = .returned (.int .i64 r) ∧ (0 ≤ r → x.le 1048576 ∧ r ≤ 1048576)) ∧ Below w.heap.size w w' := by
 obtain ⟨s2, s3⟩ := hs
 by_cases h' : l < x.nm.size
 · go_enter Tryz.func31, Tryz.ntmps31
   go_wp2
   go_ret
   exact ⟨⟨-1, rfl, fun h => by omega⟩, (Below.refl _ _).alloc (Nat.le_refl _) _⟩
 · have h30 := fun u => c72 x.cd x.tx (l - x.nm.size) u s3 (by omega) (by omega)
   go_enter Tryz.func31, Tryz.ntmps31
   go_wp2_with fail
   refine (h30 _).mono ?_
   rintro e w1 ⟨⟨r, rfl, hr⟩, hb1⟩
   have hB1 : Below w.heap.size w w1 := ((Below.refl _ _).alloc (Nat.le_refl _) _).trans (hb1.mono (by simp))
   by_cases hn : r < 0
   · clear hr
     go_wp2
     go_ret
     exact ⟨⟨-1, rfl, fun h => by omega⟩, hB1⟩
   · have hr' := hr (by omega)
     clear hr
     go_wp2
     go_ret
     exact ⟨⟨r, rfl, fun h => ⟨⟨by omega, hr'.1⟩, hr'.2⟩⟩, hB1⟩
theorem lks_some {w : World} {a : Option Addr} {is : List L4} (h : LksAt w a is) : ∃ b off, (is = [] ∨ (a = some ⟨b, off, none⟩ ∧ b < w.heap.size ∧ ∀ i, i < is.length → w.cell? ⟨b, off + i * 4, none⟩ = some (.bool (is.getD i l4z).has) ∧ w.cell? ⟨b, off + i * 4 + 1, none⟩ = some (.string (is.getD i l4z).nm) ∧ w.cell? ⟨b, off + i * 4 + 2, none⟩ = some (.int .i64 (is.getD i l4z).cd) ∧ w.cell? ⟨b, off + i * 4 + 3, none⟩ = some (.string (is.getD i l4z).tx))) := by
 rcases h with h | ⟨b, off, h⟩
 · exact ⟨0, 0, .inl h⟩
 · exact ⟨b, off, .inr h⟩
theorem lks_below {w w' : World} {a : Option Addr} {is : List L4} (h : LksAt w a is) (hb : Below w.heap.size w w') : LksAt w' a is := by
 rcases h with h | ⟨b, off, h1, h2, h3⟩
 · exact .inl h
 · exact .inr ⟨b, off, h1, Nat.lt_of_lt_of_le h2 hb.size, fun i hi => by rw [hb.cell (by exact h2), hb.cell (by exact h2), hb.cell (by exact h2), hb.cell (by exact h2)]; exact h3 i hi⟩
theorem lks_set {w : World} {a : Option Addr} {is : List L4} {q : Addr} {v : Value} (h : LksAt w a is) (hq : ∀ b off, a = some ⟨b, off, none⟩ → is ≠ [] → q.block ≠ b) : LksAt (w.setCell q v) a is := by
 rcases Nat.eq_zero_or_pos is.length with e | e
 · exact .inl (List.eq_nil_of_length_eq_zero e)
 have hn : is ≠ [] := fun c => by rw [c] at e; simp at e
 rcases h with h | ⟨b, off, h1, h2, h3⟩
 · exact absurd h hn
 · have hne : ∀ j, q ≠ ⟨b, j, none⟩ := fun j e => hq b off h1 hn (by rw [e])
   refine .inr ⟨b, off, h1, by simpa using h2, fun i hi => ?_⟩
   rw [World.cell?_setCell_other _ _ _ _ (hne _), World.cell?_setCell_other _ _ _ _ (hne _), World.cell?_setCell_other _ _ _ _ (hne _), World.cell?_setCell_other _ _ _ _ (hne _)]
   exact h3 i hi
theorem getD_smallL {is : List L4} {B : Nat} (h : ∀ i, i < is.length → (is.getD i l4z).le B) (i : Nat) : (is.getD i l4z).le B := by
 rcases Nat.lt_or_ge i is.length with h' | h'
 · exact h i h'
 · have e : is.getD i l4z = l4z := by simp [List.getD, List.getElem?_eq_none h']
   rw [e]; exact ⟨Nat.zero_le _, Nat.zero_le _⟩
set_option maxHeartbeats 1000000 in
theorem c7 (a : Option Addr) (cap : Nat) (is : List L4) (l : Int) (w : World) (h0 : 0 ≤ l) (h1 : l ≤ 1048576) (hs : ∀ i, (is.getD i l4z).le 9223372036854775807) (hl : is.length ≤ 9223372036854775807) (hat : LksAt w a is) :
 Calls Tryz.prog 7 #[.slice a is.length cap, .int .i64 l] w fun e w' => (∃ r : Int, e = .returned (.int .i64 r) ∧ (0 ≤ r → is.length ≤ 1048576 ∧ (∀ i, (is.getD i l4z).le 1048576) ∧ r ≤ 1048576)) ∧ Below w.heap.size w w' := by
 obtain ⟨b, off, hc⟩ := lks_some hat
 have HC : Hid (is = [] ∨ (a = some ⟨b, off, none⟩ ∧ b < w.heap.size ∧ ∀ i, i < is.length → w.cell? ⟨b, off + i * 4, none⟩ = some (.bool (is.getD i l4z).has) ∧ w.cell? ⟨b, off + i * 4 + 1, none⟩ = some (.string (is.getD i l4z).nm) ∧ w.cell? ⟨b, off + i * 4 + 2, none⟩ = some (.int .i64 (is.getD i l4z).cd) ∧ w.cell? ⟨b, off + i * 4 + 3, none⟩ = some (.string (is.getD i l4z).tx))) := hc
 clear hc hat
 by_cases hbig : l < is.length
 · go_enter Tryz.func7, Tryz.ntmps7
   go_wp2
   go_ret
   exact ⟨⟨-1, rfl, fun h => by omega⟩, Below.refl _ _⟩
 · go_enter Tryz.func7, Tryz.ntmps7
   go_wp2_with fail
   go_loopw [1, 5] (fun l i wr => ∃ (k : Nat) (r : Int), k ≤ is.length ∧ i = .int .i64 k ∧ l = .int .i64 r ∧ 0 ≤ r ∧ r ≤ 1048576 ∧ Hid (∀ i, i < k → (is.getD i l4z).le 1048576) ∧ Below w.heap.size w wr) (fun _ i _ => is.length - (intOf i).toNat)
   case atStart => exact ⟨0, _, Nat.zero_le _, rfl, rfl, by omega, by omega, fun i h => absurd h (Nat.not_lt_zero _), Below.refl _ _⟩
   case round =>
    obtain ⟨k, r, hk, rfl, rfl, hr0, hr1, hsm, hb⟩ := hrel
    by_cases hlt : k < is.length
    · rcases HC.out with hss | ⟨ha, hbw, hcell⟩
      · rw [hss] at hlt; exact absurd hlt (Nat.not_lt_zero _)
      subst ha
      have g0 := (hb.cell (p := ⟨b, off + k * 4, none⟩) hbw).trans (hcell k hlt).1
      have g1 := (hb.cell (p := ⟨b, off + k * 4 + 1, none⟩) hbw).trans (hcell k hlt).2.1
      have g2 := (hb.cell (p := ⟨b, off + k * 4 + 2, none⟩) hbw).trans (hcell k hlt).2.2.1
      have g3 := (hb.cell (p := ⟨b, off + k * 4 + 3, none⟩) hbw).trans (hcell k hlt).2.2.2
      have hxs := hs k
      generalize hx : is.getD k l4z = x at *
      have HX : Hid (is.getD k l4z = x) := hx
      clear hx hcell
      go_wp2_with fail
      refine (c31 x r wr hxs hr0 hr1).mono ?_
      rintro e w1 ⟨⟨r1, rfl, hr⟩, hb1⟩
      have hB1 : Below w.heap.size w w1 := hb.trans (hb1.mono hb.size)
      by_cases hneg : r1 < 0
      · clear hr
        go_wp2
        go_ret
        exact ⟨⟨-1, rfl, fun h => by omega⟩, hB1⟩
      · have hr' := hr (by omega)
        have hsm' : Hid (∀ i, i < k + 1 → (is.getD i l4z).le 1048576) := by
         intro i h
         rcases Nat.lt_or_ge i k with h1 | h1
         · exact hsm.out i h1
         · obtain rfl : i = k := by omega
           rw [HX.out]; exact hr'.1
        clear hr
        go_wp2
        go_roundw
        case rel => exact ⟨k + 1, _, by omega, by go_num, rfl, by omega, hr'.2, hsm', hB1⟩
        case measure => simp [intOf]; omega
    · have hsm' : Hid (∀ i, (is.getD i l4z).le 1048576) := getD_smallL (fun i h => hsm.out i (by omega))
      go_wp2
      go_ret
      exact ⟨⟨r, rfl, fun _ => ⟨by omega, hsm'.out, hr1⟩⟩, hb⟩
set_option maxHeartbeats 1000000 in
theorem c43 (x : L4) (w : World) :
 Calls Tryz.prog 43 #[.agg #[.bool x.has, .string x.nm, .int .i64 x.cd, .string x.tx], .agg #[.bool x.has, .string x.nm, .int .i64 x.cd, .string x.tx]] w fun e w' => e = .returned (.bool true) ∧ Below w.heap.size w w' := by
 go_enter Tryz.func43, Tryz.ntmps43
 go_wp2_with fail
 have hB : ∀ o1 o2, Below w.heap.size w ((w.alloc o1).alloc o2) := fun o1 o2 => ((Below.refl _ _).alloc (Nat.le_refl _) _).alloc (by simp) _
 refine (c42 x.cd x.tx _).mono ?_
 rintro e w1 ⟨rfl, hb1⟩
 go_wp2
 go_ret
 exact ⟨rfl, (hB _ _).trans (hb1.mono (by simp; omega))⟩
end Go.Proofs.YtpjpckmfehfniaaGreatDoor.M
namespace Go.Proofs.YtpjpckmfehfniaaGreatDoor.M
open Go.RowKit
theorem step_app {P : Program} {ops : Array Oper} {o : Oper} {a : Act} {w : World} {K : Act → World → Prop} {Q : Exit → Act → World → Prop} {E : Prop}
 (hg : o.guard = none) (s x : Operand) (t : TypeId) (hop : o.op = Op.call { callee := Callee.builtin Builtin.append, args := #[s, x], argTypes := #[t, t] })
 (base : Nat) (e : TypeId) (i : TypeInfo) (z : Value) (size bytes : Nat) (h1 : P.underlying t = some (.slice e)) (h2 : P.info? e = some i) (h3 : i.zero = some z) (h4 : i.size = size) (h5 : i.bytes = bytes) (h6 : z.cells.size = size) (h7 : 0 < size)
 (v : Value) (n : Nat) (xs : List Value) (hs : a.eval s = v) (hown : w.ownsRow base e size v n xs)
 (ad : Addr) (m c : Nat) (news : List Value) (hx : a.eval x = .slice (some ad) m c) (hn : news.length = m * size) (hc : ∀ j u, news[j]? = some u → w.cell? (ad.add j) = some u) (h1c : ∀ u ∈ news, u.oneCell' = true)
 (b1 : n + m ≤ maxLen) (b2 : (n + m) * bytes ≤ 140737488355328) (hb : base ≤ w.heap.size)
 (hK : ∀ v' w', w'.ownsRow base e size v' (n + m) (xs ++ news) → w.grownBy w' v.ownBlock → K (a.put o.dst v') w') :
 if Region.wanted o (yielded ops a.tmps) = true then Oper.wp P o a w K Q else E := by
 have hw : Region.wanted o (yielded ops a.tmps) = true := by simp [Region.wanted, hg]
 rw [if_pos hw]
 obtain ⟨v', w', hrun, r1, r2, _⟩ := run_append_own (P := P) w base t o.type e i z size bytes h1 h2 h3 h4 h5 h6 h7 v n xs hown ad m c news hn hc h1c b1 b2 hb
 unfold Oper.wp
 simp [execOp, hop, resolve, invoke, builtin, hs, hx, hrun, Result.andThen]
 exact hK v' w' r1 r2
theorem conv_own {w : World} {base : Nat} {v : Value} {n : Nat} {l : List UInt8} (h : w.ownsRow base 5 1 v n (Lib.byteCells l)) (hn : 0 < n) : (convert 60 9 v).run Tryz.prog w = .ok (.string ⟨l.toArray⟩) w := by
 have h' := h
 obtain ⟨h1, h2⟩ := h
 rcases h2 with ⟨_, h0⟩ | ⟨g, cp, cur, rfl, hg, hh, _⟩
 · omega
 · have hl : l.length = n := by rw [cells_len] at h1; omega
   have := run_convert_bytes_arg (P := Tryz.prog) w 60 5 Tryz.underlying60 Tryz.underlying5 g 0 n cp (l.map fun b => (b.toNat : Int)) (by simpa using hl) (fun i hi => by
    rw [Nat.zero_add, h'.cellAt i (by omega)]
    have hi' : i < l.length := by omega
    simp [Lib.byteCells, hi']) 9 Tryz.underlying9
   rw [this]
   have e : l.map ((fun n : Int => UInt8.ofNat n.toNat) ∘ fun b => (b.toNat : Int)) = l := (List.map_congr_left (fun b _ => by simp)).trans (List.map_id l)
   simp only [strOfNums, List.map_map, e]
theorem notPlain {c : UInt8} (h : ¬ plainB c = true) : (c.toNat : Int) < 32 ∨ 126 < (c.toNat : Int) ∨ ((32 : Int) ≤ (c.toNat : Int) ∧ (c.toNat : Int) ≤ 126 ∧ ((c.toNat : Int) != 34) = false) ∨ ((32 : Int) ≤ (c.toNat : Int) ∧ (c.toNat : Int) ≤ 126 ∧ ((c.toNat : Int) != 34) = true ∧ ((c.toNat : Int) != 92) = false) := by
 unfold plainB at h
 simp only [Bool.and_eq_true, decide_eq_true_eq, Bool.not_eq_true', beq_eq_false_iff_ne] at h
 simp only [bne_eq_false_iff_eq, bne_iff_ne]
 omega
theorem wrap_div (c : UInt8) : IntKind.u8.wrap ((c.toNat : Int) / 16) = (c.toNat : Int) / 16 := by
 have := c.toNat_lt
 simp [IntKind.wrap, IntKind.signed, IntKind.bits]; omega
theorem row3 (w : World) (x y z : Value) (t : TypeId) : ∀ j u, [x, y, z][j]? = some u → (w.alloc (.cells #[x, y, z] t)).drew.cell? ((⟨w.heap.size, 0, none⟩ : Addr).add j) = some u := by
 intro j u h
 match j, h with
 | 0, h => simp at h; subst h; simp [Addr.add]
 | 1, h => simp at h; subst h; simp [Addr.add]
 | 2, h => simp at h; subst h; simp [Addr.add]
set_option maxHeartbeats 2000000 in
set_option maxRecDepth 100000 in
theorem c111 (s : ByteArray) (w : World) (hs : s.size ≤ 1048700) :
 Calls Tryz.prog 111 #[.string s] w fun e w' => e = .returned (.string ⟨(quoteL s.data.toList).toArray⟩) ∧ Below w.heap.size w w' := by
 obtain ⟨i0, hi, hz0, hz1, hz2⟩ := info_parts info5
 go_enter Tryz.func111, Tryz.ntmps111
 go_wp2_with fail
 go_loopw [3, 5] (fun v i wr => ∃ (k : Nat), k ≤ s.size ∧ i = .int .i64 k ∧ wr.ownsRow w.heap.size 5 1 v (34 :: (s.data.toList.take k).flatMap qb).length (Lib.byteCells (34 :: (s.data.toList.take k).flatMap qb)) ∧ Below w.heap.size w wr ∧ w.heap.size + 1 ≤ wr.heap.size) (fun _ i _ => s.size - (intOf i).toNat)
 case atStart => exact ⟨0, Nat.zero_le _, rfl, World.ownsRow_lit _ #[.int .u8 34] 1 (Nat.le_refl _) (by unfold maxLen; omega) rfl, (Below.refl _ _).alloc (Nat.le_refl _) _, by simp⟩
 case round =>
  obtain ⟨k, hk, rfl, hown, hb, hz⟩ := hrel
  have hL : (34 :: (s.data.toList.take k).flatMap qb : List UInt8).length ≤ 3 * k + 1 := by
   have := flat_len (s.data.toList.take k)
   have h2 : (s.data.toList.take k).length ≤ k := List.length_take_le _ _
   rw [List.length_cons]; omega
  by_cases hlt : k < s.size
  · have HS : Hid (34 :: (s.data.toList.take (k + 1)).flatMap qb = (34 :: (s.data.toList.take k).flatMap qb) ++ qb s[k]) := by rw [take_snoc s k hlt]; simp [Hid]
    generalize hl : (34 :: (s.data.toList.take k).flatMap qb : List UInt8) = l at *
    clear hl
    have hby : (s[k].toNat : Int) < 256 := by have := s[k].toNat_lt; omega
    by_cases hp : plainB s[k] = true
    · have HQ : Hid (qb s[k] = [s[k]]) := by unfold qb; rw [if_pos hp]; rfl
      unfold plainB at hp
      simp only [Bool.and_eq_true, decide_eq_true_eq, Bool.not_eq_true', beq_eq_false_iff_ne] at hp
      obtain ⟨⟨⟨p1, p2⟩, p3⟩, p4⟩ := hp
      have q3 : ((s[k].toNat : Int) != 34) = true := by simpa using p3
      have q4 : ((s[k].toNat : Int) != 92) = true := by simpa using p4
      go_wp2_with (at_builtin; refine wpList_append_own _ rfl _ _ 60 rfl w.heap.size 5 i0 (.int .u8 0) 1 1 Tryz.underlying60 hi hz0 hz1 hz2 rfl (by decide) _ _ _ rfl (hown.alloc _) ⟨wr.heap.size, 0, none⟩ 1 1 [_] rfl rfl (cell_one_new _ _ _) (by intro u hu; simp at hu; subst hu; rfl) (by unfold maxLen; omega) (by omega) (by simp; omega) ?_; intro v' w2 hown' hgrow _)
      go_roundw
      case rel =>
       have hB2 : Below w.heap.size w w2 := (hb.alloc hb.size _).grown hgrow (by simp; omega) (fun j hj => (hown.lt j hj).1)
       refine ⟨k + 1, by omega, by go_num, ?_, hB2, by have := hgrow.size; simp at this; omega⟩
       rw [HS.out, HQ.out, cells_snoc, List.length_append]
       exact hown'
      case measure => simp [intOf]; omega
    · have HQ : Hid (qb s[k] = [92, hexL.getD (s[k].toNat / 16) 0, hexL.getD (s[k].toNat % 16) 0]) := by unfold qb; rw [if_neg hp]; rfl
      have hnp := notPlain hp
      have k1 : IntKind.u8.wrap ((s[k].toNat : Int) / 16) < 16 := by rw [wrap_div s[k]]; omega
      have k2 : 0 ≤ (s[k].toNat : Int).tmod 16 := by rw [Int.tmod_eq_emod_of_nonneg (by omega)]; omega
      have k3 : (s[k].toNat : Int).tmod 16 < 16 := by rw [Int.tmod_eq_emod_of_nonneg (by omega)]; omega
      clear hp
      have e1 : ∀ h1 : (IntKind.u8.wrap ((s[k].toNat : Int) / 16)).toNat < hexA.size, hexA[(IntKind.u8.wrap ((s[k].toNat : Int) / 16)).toNat]'h1 = hexL.getD (s[k].toNat / 16) 0 := fun h1 => by
       rw [hex_get]; congr 1; rw [wrap_div]; omega
      have e2 : ∀ h1 : ((s[k].toNat : Int).tmod 16).toNat < hexA.size, hexA[((s[k].toNat : Int).tmod 16).toNat]'h1 = hexL.getD (s[k].toNat % 16) 0 := fun h1 => by
       rw [hex_get]; congr 1
      have E1 : Hid (∀ h1 : (IntKind.u8.wrap ((s[k].toNat : Int) / 16)).toNat < hexA.size, hexA[(IntKind.u8.wrap ((s[k].toNat : Int) / 16)).toNat]'h1 = hexL.getD (s[k].toNat / 16) 0) := e1
      have E2 : Hid (∀ h1 : ((s[k].toNat : Int).tmod 16).toNat < hexA.size, hexA[((s[k].toNat : Int).tmod 16).toNat]'h1 = hexL.getD (s[k].toNat % 16) 0) := e2
      clear e1 e2
      rcases hnp with h | h | ⟨h, h', h''⟩ | ⟨h, h', h'', h3⟩
      all_goals
       go_wp2_with fail
       go_region_law (refine step_app rfl (.tmp 41) (.tmp 54) 60 rfl w.heap.size 5 i0 (.int .u8 0) 1 1 Tryz.underlying60 hi hz0 hz1 hz2 rfl (by decide) _ _ _ rfl ((hown.alloc _).drew) ⟨wr.heap.size, 0, none⟩ 3 3 [_, _, _] rfl rfl (row3 _ _ _ _ _) (by intro u hu; simp at hu; rcases hu with rfl | rfl | rfl <;> rfl) (by unfold maxLen; omega) (by omega) (by simp; omega) ?_; intro v' w2 hown' hgrow)
       all_goals go_wp2
       all_goals go_roundw
       all_goals first
        | (refine ⟨k + 1, by omega, by go_num, ?_, ((hb.alloc hb.size _).drew).grown hgrow (by simp; omega) (fun j hj => (hown.lt j hj).1), by have := hgrow.size; simp at this; omega⟩; rw [HS.out, HQ.out, cells_snoc, List.length_append]; have hq := hown'; rw [show Lib.byteCells [92, hexL.getD (s[k].toNat / 16) 0, hexL.getD (s[k].toNat % 16) 0] = [.int .u8 92, .int .u8 (hexA[(IntKind.u8.wrap ((s[k].toNat : Int) / 16)).toNat]'(by show _ < 16; omega)).toNat, .int .u8 (hexA[((s[k].toNat : Int).tmod 16).toNat]'(by show _ < 16; omega)).toNat] by rw [E1.out, E2.out]; rfl]; exact hq)
        | (simp [intOf]; omega)
  · have HT : Hid (quoteL s.data.toList = (34 :: (s.data.toList.take k).flatMap qb) ++ [34]) := by rw [List.take_of_length_le (by simp; omega)]; rfl
    generalize hl : (34 :: (s.data.toList.take k).flatMap qb : List UInt8) = l at *
    clear hl
    go_wp2_with (at_builtin; refine wpList_append_own _ rfl _ _ 60 rfl w.heap.size 5 i0 (.int .u8 0) 1 1 Tryz.underlying60 hi hz0 hz1 hz2 rfl (by decide) _ _ _ rfl (hown.alloc _) ⟨wr.heap.size, 0, none⟩ 1 1 [_] rfl rfl (cell_one_new _ _ _) (by intro u hu; simp at hu; subst hu; rfl) (by unfold maxLen; omega) (by omega) (by simp; omega) ?_; intro v' w2 hown' hgrow _; have hcv := conv_own (l := l ++ [34]) (by rw [cells_snoc]; exact hown') (by omega))
    go_ret
    have hB2 : Below w.heap.size w w2 := (hb.alloc hb.size _).grown hgrow (by simp; omega) (fun j hj => (hown.lt j hj).1)
    exact ⟨by rw [HT.out]; rfl, hB2⟩
end Go.Proofs.YtpjpckmfehfniaaGreatDoor.M
namespace Go.Proofs.YtpjpckmfehfniaaGreatDoor.M
set_option linter.unusedSimpArgs false
open Go.RowKit
def okM (x : M3) : Bool := nameOk x.nm.data.toList && nameOk x.tl.data.toList && decide ((x.ar.size : Int) ≤ 300)
set_option maxHeartbeats 1000000 in
theorem c32 (x : M3) (w : World) (hs : x.le 1048700) :
 Calls Tryz.prog 32 #[.agg #[.string x.nm, .string x.tl, .string x.ar]] w fun e w' => e = .returned (.bool (okM x)) ∧ Below w.heap.size w w' := by
 have HF : Hid (okM x = (nameOk x.nm.data.toList && nameOk x.tl.data.toList && decide ((x.ar.size : Int) ≤ 300))) := rfl
 obtain ⟨h1, h2, h3⟩ := hs
 go_enter Tryz.func32, Tryz.ntmps32
 go_wp2_with fail
 refine (c73 _ _ h1).mono ?_
 rintro e w1 ⟨rfl, rfl⟩
 cases hn : nameOk x.nm.data.toList
 · rw [hn] at HF
   go_wp2
   all_goals go_ret
   all_goals exact ⟨ret_bool (by rw [HF.out]; simp), (Below.refl _ _).alloc (Nat.le_refl _) _⟩
 · rw [hn] at HF
   go_wp2_with fail
   refine (c73 _ _ h2).mono ?_
   rintro e w1 ⟨rfl, rfl⟩
   cases hm : nameOk x.tl.data.toList
   all_goals
    rw [hm] at HF
    go_wp2
    all_goals go_ret
    all_goals exact ⟨ret_bool (by rw [HF.out]; simp), (Below.refl _ _).alloc (Nat.le_refl _) _⟩
theorem c32v {x : M3} {v : Bool} (hv : okM x = v) (w : World) (hs : x.le 1048700) :
 Calls Tryz.prog 32 #[.agg #[.string x.nm, .string x.tl, .string x.ar]] w fun e w' => e = .returned (.bool v) ∧ Below w.heap.size w w' := hv ▸ c32 x w hs
set_option maxHeartbeats 1000000 in
theorem c38 (x : M3) (w : World) (hs : x.le 1048700) :
 Calls Tryz.prog 38 #[.agg #[.string x.nm, .string x.tl, .string x.ar]] w fun e w' => e = .returned (.bool (okM x)) ∧ Below w.heap.size w w' := by
 have HF : Hid (okM x = (nameOk x.nm.data.toList && nameOk x.tl.data.toList && decide ((x.ar.size : Int) ≤ 300))) := rfl
 obtain ⟨h1, h2, h3⟩ := hs
 go_enter Tryz.func38, Tryz.ntmps38
 go_wp2_with fail
 refine (c87 _ _ h1).mono ?_
 rintro e w1 ⟨rfl, rfl⟩
 cases hn : nameOk x.nm.data.toList
 · rw [hn] at HF
   go_wp2
   all_goals go_ret
   all_goals exact ⟨ret_bool (by rw [HF.out]; simp), (Below.refl _ _).alloc (Nat.le_refl _) _⟩
 · rw [hn] at HF
   go_wp2_with fail
   refine (c87 _ _ h2).mono ?_
   rintro e w1 ⟨rfl, rfl⟩
   cases hm : nameOk x.tl.data.toList
   all_goals
    rw [hm] at HF
    go_wp2
    all_goals go_ret
    all_goals exact ⟨ret_bool (by rw [HF.out]; simp), (Below.refl _ _).alloc (Nat.le_refl _) _⟩
theorem c38v {x : M3} {v : Bool} (hv : okM x = v) (w : World) (hs : x.le 1048700) :
 Calls Tryz.prog 38 #[.agg #[.string x.nm, .string x.tl, .string x.ar]] w fun e w' => e = .returned (.bool v) ∧ Below w.heap.size w w' := hv ▸ c38 x w hs
theorem c111' (s : ByteArray) (w : World) (hs : s.size ≤ 1048700) :
 Calls Tryz.prog 111 #[.string s] w fun e w' => e = .returned (.string (ofL (quoteL s.data.toList))) ∧ Below w.heap.size w w' := c111 s w hs
end Go.Proofs.YtpjpckmfehfniaaGreatDoor.M
