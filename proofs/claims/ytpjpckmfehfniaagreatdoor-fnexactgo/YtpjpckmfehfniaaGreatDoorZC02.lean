import Derived.Test.YtpjpckmfehfniaaGreatDoorZC01
namespace Go.Proofs.YtpjpckmfehfniaaGreatDoor
open Go.RowKit

def usesTo (op : Int) : Bool := op == 7 || op == 8 || op == 9
def usesTx (op : Int) : Bool := op == 1 || op == 6 || op == 8
def okI (x : I3) : Bool := decide (1 ≤ x.op ∧ x.op ≤ 11) && (usesTo x.op || x.to == 0) && (usesTx x.op || x.tx.toList.isEmpty) && decide (0 ≤ x.to ∧ x.to ≤ 40) && decide ((x.tx.size : Int) ≤ 300)
def word (op : Int) : List UInt8 := if op = 1 then [108, 105, 116] else if op = 2 then [97, 114, 103] else if op = 3 then [97, 115, 107] else if op = 4 then [104, 97, 115] else if op = 5 then [112, 117, 116] else if op = 6 then [99, 97, 116] else if op = 7 then [108, 105, 110, 101] else if op = 8 then [105, 102] else if op = 9 then [103, 111] else if op = 10 then [101, 110, 100] else if op = 11 then [102, 97, 105, 108] else []
def wordA (op : Int) : ByteArray := ⟨(word op).toArray⟩
/-- The table of shapes lies in its variable. -/
def ShapesAt (w : World) : Prop := ∀ op : Nat, 1 ≤ op → op ≤ 11 → w.cell? ⟨0, op * 3, none⟩ = some (.string (wordA op)) ∧ w.cell? ⟨0, op * 3 + 1, none⟩ = some (.bool (usesTo op)) ∧ w.cell? ⟨0, op * 3 + 2, none⟩ = some (.bool (usesTx op))
theorem shapes_pos {w : World} (h : ShapesAt w) : 0 < w.heap.size := by
  obtain ⟨a, _⟩ := h 1 (by omega) (by omega)
  rcases Nat.eq_zero_or_pos w.heap.size with h | h
  · simp [World.cell?, Array.getElem?_eq_none (show w.heap.size ≤ 0 by omega)] at a
  · exact h
theorem cell_past {w : World} {j : Nat} {v : Value} (h0 : 0 < w.heap.size) (h : w.cell? ⟨0, j, none⟩ = some v) : ∀ o, (w.alloc o).cell? ⟨0, j, none⟩ = some v := fun o => by
  rw [((Below.refl w.heap.size w).alloc (Nat.le_refl _) o).cell (by exact h0)]; exact h
theorem shapes_below {w w' : World} (h : ShapesAt w) (hb : Below w.heap.size w w') : ShapesAt w' := by
  intro op h1 h2
  obtain ⟨a, b, c⟩ := h op h1 h2
  have h0 : 0 < w.heap.size := by
    rcases Nat.eq_zero_or_pos w.heap.size with h | h
    · simp [World.cell?, Array.getElem?_eq_none (show w.heap.size ≤ 0 by omega)] at a
    · exact h
  rw [hb.cell (by exact h0), hb.cell (by exact h0), hb.cell (by exact h0)]
  exact ⟨a, b, c⟩

set_option maxHeartbeats 1000000 in
theorem c131_in (op : Nat) (tx : ByteArray) (to : Int) (w : World) (_hs : tx.size ≤ 1048700) (h1 : 1 ≤ op) (h2 : op ≤ 11) (hsh : ShapesAt w) :
    Calls Tryz.prog 131 #[.agg #[.int .i64 op, .string tx, .int .i64 to]] w fun e w' => e = .returned (.bool (okI ⟨op, tx, to⟩)) ∧ Below w.heap.size w w' := by
  obtain ⟨a0, b0, c0⟩ := hsh op h1 h2
  have h0 := shapes_pos hsh
  have a := cell_past h0 a0
  have b := cell_past h0 b0
  have c := cell_past h0 c0
  clear hsh a0 b0 c0
  have HO : Hid (okI ⟨op, tx, to⟩ = ((usesTo op || to == 0) && (usesTx op || tx.toList.isEmpty) && decide (0 ≤ to ∧ to ≤ 40) && decide ((tx.size : Int) ≤ 300))) := by
    unfold okI; simp only [show decide ((1 : Int) ≤ (op : Int) ∧ (op : Int) ≤ 11) = true by simp; omega, Bool.true_and]; trivial
  have ho1 : (1 : Int) ≤ (op : Int) := by omega
  have ho2 : (op : Int) ≤ 11 := by omega
  generalize usesTo op = tO at *
  generalize usesTx op = tX at *
  have hB : ∀ o1 o2 : Obj, Below w.heap.size w ((w.alloc o1).alloc o2) := fun o1 o2 => ((Below.refl _ _).alloc (Nat.le_refl _) _).alloc (by simp) _
  cases tO <;> cases tX
  all_goals
    go_enter Tryz.func131, Tryz.ntmps131
    go_wp2
    all_goals go_ret
    all_goals refine ⟨ret_bool ?_, hB _ _⟩
    all_goals rw [HO.out]
    all_goals clear a b c HO hB h1 h2 ho1 ho2
    all_goals first | (simp_all; done) | (simp_all; omega)

set_option maxHeartbeats 1000000 in
theorem c131 (x : I3) (w : World) (hs : x.tx.size ≤ 1048700) (hsh : ShapesAt w) :
    Calls Tryz.prog 131 #[.agg #[.int .i64 x.op, .string x.tx, .int .i64 x.to]] w fun e w' => e = .returned (.bool (okI x)) ∧ Below w.heap.size w w' := by
  by_cases h : 1 ≤ x.op ∧ x.op ≤ 11
  · obtain ⟨n, hn⟩ := Int.eq_ofNat_of_zero_le (show 0 ≤ x.op by omega)
    have := c131_in n x.tx x.to w hs (by omega) (by omega) hsh
    rw [← hn] at this
    exact this
  · have HO : Hid (okI x = false) := by unfold okI; rw [show decide (1 ≤ x.op ∧ x.op ≤ 11) = false by simpa using h]; rfl
    clear hsh
    have hc : x.op < 1 ∨ 11 < x.op := by omega
    rcases hc with hc | hc
    all_goals
      go_enter Tryz.func131, Tryz.ntmps131
      go_wp2
      all_goals go_ret
      all_goals exact ⟨ret_bool HO.out.symm, (Below.refl _ _).alloc (Nat.le_refl _) _⟩

def okT (is : List I3) : Bool := decide (1 ≤ is.length ∧ is.length ≤ 40) && is.all okI
theorem all_snoc {is : List I3} {k : Nat} (h : k < is.length) (ha : (is.take k).all okI = true) (hx : okI (is.getD k i3z) = true) : (is.take (k + 1)).all okI = true := by
  rw [List.take_succ_eq_append_getElem h, List.all_append, ha]
  have e : is.getD k i3z = is[k] := by simp [h]
  rw [e] at hx
  simp [hx]
theorem all_not {is : List I3} {k : Nat} (h : k < is.length) (hx : okI (is.getD k i3z) = false) : is.all okI = false := by
  rw [List.all_eq_false]
  have e : is.getD k i3z = is[k] := by simp [h]
  rw [e] at hx
  exact ⟨is[k], List.getElem_mem h, by simp [hx]⟩

set_option maxHeartbeats 1000000 in
theorem c119 (a : Option Addr) (cap : Nat) (is : List I3) (w : World) (hs : ∀ i, (is.getD i i3z).tx.size ≤ 1048700) (hl : is.length ≤ 1048576) (hat : InsAt w a is) (hsh : ShapesAt w) :
    Calls Tryz.prog 119 #[.agg #[.slice a is.length cap]] w fun e w' => e = .returned (.bool (okT is)) ∧ Below w.heap.size w w' := by
  by_cases hn : 1 ≤ is.length ∧ is.length ≤ 40
  · have HO : Hid (okT is = is.all okI) := by unfold okT; rw [show decide (1 ≤ is.length ∧ is.length ≤ 40) = true by simpa using hn]; rfl
    obtain ⟨hn1, hn2⟩ := hn
    have h0 := shapes_pos hsh
    have HSH : Hid (ShapesAt w) := hsh
    obtain ⟨b, off, hc⟩ := ins_some hat
    rcases hc with hc | ⟨rfl, hbw, hcell⟩
    · rw [hc] at hn1; simp at hn1
    clear hat hsh
    go_enter Tryz.func119, Tryz.ntmps119
    go_wp2_with fail
    go_loopw [18] (fun i wr => ∃ (k : Nat), k ≤ is.length ∧ i = .int .i64 k ∧ Below w.heap.size w wr ∧ Hid ((is.take k).all okI = true)) (fun i _ => is.length - (intOf i).toNat)
    case atStart => exact ⟨0, Nat.zero_le _, rfl, (Below.refl _ _).alloc (Nat.le_refl _) _, rfl⟩
    case round =>
      obtain ⟨k, hk, rfl, hb, hall⟩ := hrel
      by_cases hlt : k < is.length
      · have g0 := (hb.cell (p := ⟨b, off + k * 3, none⟩) hbw).trans (hcell k hlt).1
        have g1 := (hb.cell (p := ⟨b, off + k * 3 + 1, none⟩) hbw).trans (hcell k hlt).2.1
        have g2 := (hb.cell (p := ⟨b, off + k * 3 + 2, none⟩) hbw).trans (hcell k hlt).2.2
        have hxs := hs k
        generalize hx : is.getD k i3z = x at *
        have HX : Hid (is.getD k i3z = x) := hx
        clear hx
        have HCE : Hid (∀ i, i < is.length → w.cell? ⟨b, off + i * 3, none⟩ = some (.int .i64 (is.getD i i3z).op) ∧ w.cell? ⟨b, off + i * 3 + 1, none⟩ = some (.string (is.getD i i3z).tx) ∧ w.cell? ⟨b, off + i * 3 + 2, none⟩ = some (.int .i64 (is.getD i i3z).to)) := hcell
        clear hcell
        go_wp2_with fail
        refine (c131 x _ hxs (shapes_below HSH.out (hb.alloc hb.size _))).mono ?_
        rintro e w1 ⟨rfl, hb1⟩
        have hB1 : Below w.heap.size w w1 := (hb.alloc hb.size _).trans (hb1.mono (by have := hb.size; simp; omega))
        cases hok : okI x
        · have HN : Hid (okT is = false) := by rw [HO.out]; exact all_not hlt (by rw [HX.out]; exact hok)
          clear hok
          go_wp2
          go_ret
          exact ⟨ret_bool HN.out.symm, hB1⟩
        · have hall' : Hid ((is.take (k + 1)).all okI = true) := all_snoc hlt hall.out (by rw [HX.out]; exact hok)
          clear hok
          go_wp2
          go_roundw
          case rel => exact ⟨k + 1, by omega, by go_num, hB1, hall'⟩
          case measure => simp [intOf]; omega
      · have HN : Hid (okT is = true) := by rw [HO.out]; have := hall.out; rwa [List.take_of_length_le (by omega)] at this
        go_wp2
        go_ret
        exact ⟨ret_bool HN.out.symm, hb⟩
  · have HO : Hid (okT is = false) := by unfold okT; rw [show decide (1 ≤ is.length ∧ is.length ≤ 40) = false by simpa using hn]; rfl
    clear hat hsh
    by_cases h1 : 1 ≤ is.length
    all_goals
      go_enter Tryz.func119, Tryz.ntmps119
      go_wp2
      all_goals go_ret
      all_goals exact ⟨ret_bool HO.out.symm, (Below.refl _ _).alloc (Nat.le_refl _) _⟩
end Go.Proofs.YtpjpckmfehfniaaGreatDoor
namespace Go.Proofs.YtpjpckmfehfniaaGreatDoor
open Go.RowKit

theorem dec_small (n : Nat) (h : n < 10) : Lib.decDigits n = [UInt8.ofNat (48 + n)] := by rw [Lib.decDigits, dif_pos h]
theorem dec_two (n : Nat) (h : ¬ n < 10) : Lib.decDigits n = Lib.decDigits (n / 10) ++ [UInt8.ofNat (48 + n % 10)] := by rw [Lib.decDigits, dif_neg h]

theorem conv1 (u : World) (y : Int) : (convert 60 9 (.slice (some ⟨u.heap.size, 0, none⟩) 1 1)).run Tryz.prog (u.alloc (.cells #[.int .u8 y] 5)) = .ok (.string (strOfNums [y])) (u.alloc (.cells #[.int .u8 y] 5)) :=
  run_convert_bytes_arg _ 60 5 Tryz.underlying60 Tryz.underlying5 _ 0 1 1 [y] rfl (fun i hi => by
    obtain rfl : i = 0 := by omega
    simp) 9 Tryz.underlying9
theorem convD (u : World) (y : Int) : (convert 60 9 (.slice (some ⟨u.heap.size, 0, none⟩) 1 1)).run Tryz.prog (u.alloc (.cells #[.int .u8 y] 5)).drew = .ok (.string (strOfNums [y])) (u.alloc (.cells #[.int .u8 y] 5)).drew :=
  run_convert_bytes_arg _ 60 5 Tryz.underlying60 Tryz.underlying5 _ 0 1 1 [y] rfl (fun i hi => by
    obtain rfl : i = 0 := by omega
    simp) 9 Tryz.underlying9
theorem convB {u w1 : World} {y : Int} (hb : Below (u.alloc (.cells #[.int .u8 y] 5)).drew.heap.size (u.alloc (.cells #[.int .u8 y] 5)).drew w1) :
    (convert 60 9 (.slice (some ⟨u.heap.size, 0, none⟩) 1 1)).run Tryz.prog w1 = .ok (.string (strOfNums [y])) w1 :=
  run_convert_bytes_arg _ 60 5 Tryz.underlying60 Tryz.underlying5 _ 0 1 1 [y] rfl (fun i hi => by
    obtain rfl : i = 0 := by omega
    rw [hb.cell (by simp)]
    simp) 9 Tryz.underlying9
def ofL (l : List UInt8) : ByteArray := ⟨l.toArray⟩
theorem ofL_size (l : List UInt8) : (ofL l).size = l.length := by simp [ofL, ByteArray.size]
theorem ofL_snoc (l : List UInt8) (x : Int) : ofL l ++ strOfNums [x] = ofL (l ++ [UInt8.ofNat x.toNat]) := by
  apply ByteArray.ext
  simp [ofL, strOfNums]

set_option maxHeartbeats 400000 in
theorem c77_one (n : Nat) (w : World) (h : n < 10) :
    Calls Tryz.prog 77 #[.int .i64 n] w fun e w' => e = .returned (.string (ofL (Lib.decDigits n))) ∧ Below w.heap.size w w' := by
  have hcv := conv1
  have HD : Hid (Lib.decDigits n = [UInt8.ofNat (48 + (n : Int)).toNat]) := by
    rw [show (48 + (n : Int)).toNat = 48 + n by omega]; exact dec_small n h
  go_enter Tryz.func77, Tryz.ntmps77
  go_wp2
  go_ret
  exact ⟨by rw [HD.out]; rfl, (Below.refl _ _).alloc (Nat.le_refl _) _⟩

theorem div_form (n : Nat) (h1 : n < 100) : IntKind.i64.wrap ((n : Int).tdiv 10) = ((n / 10 : Nat) : Int) := by
  rw [Int.tdiv_eq_ediv_of_nonneg (by omega)]
  simp [IntKind.wrap, IntKind.signed, IntKind.bits]; omega

theorem mod_form (n : Int) (h : 0 ≤ n) : IntKind.u8.wrap (IntKind.i64.wrap (48 + n.tmod 10)) = 48 + n % 10 := by
  rw [Int.tmod_eq_emod_of_nonneg h]
  simp [IntKind.wrap, IntKind.signed, IntKind.bits]; omega

set_option maxHeartbeats 400000 in
theorem c77_two (m : Nat) (n : Int) (w : World) (hm : Hid (n = (m : Int))) (h10 : 10 ≤ n) (h : n < 100) :
    Calls Tryz.prog 77 #[.int .i64 n] w fun e w' => e = .returned (.string (ofL (Lib.decDigits m))) ∧ Below w.heap.size w w' := by
  have hcv := conv1
  have hcd := convD
  have hz : ∀ y, (strOfNums [y]).size = 1 := fun y => strOfNums_size [y]
  have hm' := hm.out
  have hq : (ofL (Lib.decDigits (m / 10))).size = 1 := by rw [ofL_size, dec_small (m / 10) (by omega)]; rfl
  have H : Hid (∀ w, Calls Tryz.prog 77 #[.int .i64 (IntKind.i64.wrap (n.tdiv 10))] w fun e w' => e = .returned (.string (ofL (Lib.decDigits (m / 10)))) ∧ Below w.heap.size w w') := by
    rw [hm', div_form m (by omega)]
    exact fun w => c77_one (m / 10) w (by omega)
  have HD : Hid (Ending.returned (.string (ofL (Lib.decDigits (m / 10)) ++ strOfNums [48 + n % 10])) = .returned (.string (ofL (Lib.decDigits m)))) := by
    rw [dec_two m (by omega), ofL_snoc]
    rw [show (48 + n % 10).toNat = 48 + m % 10 by omega]
    rfl
  have HE : Hid (Ending.returned (.string (ofL (Lib.decDigits (m / 10)) ++ strOfNums [IntKind.u8.wrap (IntKind.i64.wrap (48 + n.tmod 10))])) = .returned (.string (ofL (Lib.decDigits m)))) := by
    rw [mod_form n (by omega)]; exact HD.out
  clear hm'
  go_enter Tryz.func77, Tryz.ntmps77
  go_wp2_with fail
  go_region_with (go_at_call 77; refine (H.out _).mono ?_; rintro e w1 ⟨rfl, hb1⟩; (try (have hcb := convB hb1)))
  all_goals go_wp2
  all_goals go_ret
  all_goals refine ⟨?_, ?_⟩
  all_goals first
    | exact HD.out
    | exact HE.out
    | exact (((Below.refl w.heap.size w).drew).trans hb1).alloc hb1.size _
    | exact (((Below.refl w.heap.size w).alloc (Nat.le_refl _) _).drew).trans (hb1.mono (by simp))
theorem c77 (n : Nat) (w : World) (h : n < 100) :
    Calls Tryz.prog 77 #[.int .i64 n] w fun e w' => e = .returned (.string (ofL (Lib.decDigits n))) ∧ Below w.heap.size w w' := by
  by_cases h10 : n < 10
  · exact c77_one n w h10
  · exact c77_two n n w rfl (by omega) (by omega)

set_option maxHeartbeats 400000 in
theorem c67 (n l h : Int) (w : World) :
    Calls Tryz.prog 67 #[.int .i64 n, .int .i64 l, .int .i64 h] w fun e w' => e = .returned (.bool (decide (l ≤ n ∧ n ≤ h))) ∧ w' = w := by
  by_cases h1 : l ≤ n <;> by_cases h2 : n ≤ h
  all_goals
    go_enter Tryz.func67, Tryz.ntmps67
    go_wp2
    all_goals go_ret
    all_goals exact ⟨by simp [*], rfl⟩
end Go.Proofs.YtpjpckmfehfniaaGreatDoor
