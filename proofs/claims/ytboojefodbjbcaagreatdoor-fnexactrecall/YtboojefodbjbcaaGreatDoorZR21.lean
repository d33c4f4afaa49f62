import Derived.Test.YtboojefodbjbcaaGreatDoorZR20
import Derived.Deep.QuietTactic
import Derived.BigQuiet
import Derived.WalkSpells
import Derived.WalkLawsBesides
namespace Go.Proofs.YtboojefodbjbcaaGreatDoor
open Go.RowKit
set_option maxRecDepth 100000
theorem drop2 (s : ByteArray) : s.extract 2 s.size = ofL (s.data.toList.drop 2) := by
 apply ByteArray.ext
 apply Array.toList_inj.1
 simp [ofL, ByteArray.data_extract]
 exact List.take_of_length_le (by simp)
set_option maxHeartbeats 2000000 in
theorem c35 (s : ByteArray) (w : World) (hs : s.size ≤ 1048700) :
 Calls Tryz.prog 35 #[.string s] w fun e w' => Is56 s.data.toList e ∧ Below w.heap.size w w' := by
 have hlen : s.data.toList.length = s.size := by simp
 have hB0 : Below w.heap.size w (w.alloc (.cells #[.int .i64 0, .string ⟨#[]⟩] 37)) := (Below.refl w.heap.size w).alloc (Nat.le_refl _) _
 have hno : IsR s.data.toList 0 [] false → Hid (Is56 s.data.toList (.returned (.tuple #[.agg #[.int .i64 0, .string ⟨#[]⟩], .bool false]))) := fun h => ⟨0, [], false, rfl, h, Nat.zero_le _⟩
 by_cases h2 : s.size < 2
 · have HI := hno (isR_short (by omega))
   clear hno hlen
   go_enter Tryz.func35, Tryz.ntmps35
   go_wp2
   refine bodyPost_ret (v := .tuple #[.agg #[.int .i64 0, .string ⟨#[]⟩], .bool false]) (by simp [results, Tryz.results35, go_sem]) rfl ⟨HI.out, hB0⟩
 have h0 : 0 < s.size := by omega
 have hh := head_zero s h0
 by_cases hd : (s[0].toNat : Int) < 48 ∨ 57 < (s[0].toNat : Int)
 · have HI := hno (isR_nodig (by rw [hh]; exact hd))
   clear hno hlen hh
   rcases hd with hd | hd
   all_goals
    go_enter Tryz.func35, Tryz.ntmps35
    go_wp2
    refine bodyPost_ret (v := .tuple #[.agg #[.int .i64 0, .string ⟨#[]⟩], .bool false]) (by simp [results, Tryz.results35, go_sem]) rfl ⟨HI.out, hB0⟩
 · have hd' : 48 ≤ (s[0].toNat : Int) ∧ (s[0].toNat : Int) ≤ 57 := by omega
   have hw := byte_sub _ hd'
   have hS := isR_spec (l := s.data.toList) (x := s[0]) (c := (s[0].toNat : Int) - 48) (by omega) hh (by omega) (by omega)
   have hx := drop2 s
   clear hh hd
   have hdl : (s.data.toList.drop 2).length ≤ s.data.toList.length := by simp
   generalize hT : s.data.toList.drop 2 = T at hS hx hdl
   clear hT
   have h13 := c73 ((s[0].toNat : Int) - 48) (ofL T)
   rw [ofL_data, ofL_size] at h13
   generalize hL : s.data.toList = L at *
   generalize hC : (s[0].toNat : Int) - 48 = C at *
   obtain ⟨d1, d2⟩ := hd'
   go_enter Tryz.func35, Tryz.ntmps35
   go_wp2_with fail
   go_region
   all_goals
    go_wp2_with fail
    refine (h13 _ (by omega)).mono ?_
    rintro e w3 ⟨rfl, hb3⟩
    have hz3 : w.heap.size + 2 ≤ w3.heap.size := by have := hb3.size; simp at this; omega
    have hx3 : Below (w.heap.size + 1) (w.alloc (.cells #[.int .i64 0, .string ⟨#[]⟩] 37)) w3 := by
     refine Below.trans ?_ (hb3.mono (by simp))
     first | exact ((Below.refl _ _).alloc (by simp) _).drew | exact (Below.refl _ _).alloc (by simp) _
    have hB3 : Below w.heap.size w w3 := hB0.trans (hx3.mono (by omega))
    have r0 : w3.cell? ⟨w.heap.size + 1, 0, none⟩ = some (.int .i64 C) := by rw [hb3.cell (by simp)]; simp [go_sem]
    have r1 : w3.cell? ⟨w.heap.size + 1, 1, none⟩ = some (.string (ofL T)) := by rw [hb3.cell (by simp)]; simp [go_sem]
    obtain ⟨⟨z0, z1⟩, y0, y1⟩ := rz2 hx3
    clear hb3 h13
    by_cases hf : formR C T = L
    · have HI : Hid (Is56 L (.returned (.tuple #[.agg #[.int .i64 C, .string (ofL T)], .bool true]))) := ⟨C, T, true, rfl, hS.1 hf, hdl⟩
      have e1 : ((ofL (formR C T)).toList == s.toList) = true := by rw [hf, ByteArray.toList_eq, ByteArray.toList_eq, ofL_data, hL]; simp
      have e2 : (ofL (formR C T)).toList = s.toList := by simpa using e1
      clear hno hS hf
      go_wp2
      have F := set2_at w3 w.heap.size (.int .i64 C) (.string (ofL T)) _ _ z0 z1
      refine bodyPost_ret (v := .tuple #[.agg #[.int .i64 C, .string (ofL T)], .bool true]) (by simp [results, Tryz.results35, go_sem, F.1, F.2]) rfl ⟨HI.out, ?_⟩
      exact ((hB3.setCell (by simp) _).setCell (by simp) _)
    · have HI := hno (hS.2 hf)
      have e2 : ¬ (ofL (formR C T)).toList = s.toList := by rw [ByteArray.toList_eq, ByteArray.toList_eq, ofL_data, hL]; exact hf
      have e1 : ((ofL (formR C T)).toList == s.toList) = false := by simpa using e2
      clear hno hS hf
      go_wp2
      have F := set2_at w3 w.heap.size (.int .i64 0) (.string ⟨#[]⟩) _ _ z0 z1
      refine bodyPost_ret (v := .tuple #[.agg #[.int .i64 0, .string ⟨#[]⟩], .bool false]) (by simp [results, Tryz.results35, go_sem, F.1, F.2]) rfl ⟨HI.out, ?_⟩
      exact ((hB3.setCell (by simp) _).setCell (by simp) _)
set_option maxHeartbeats 1000000 in
theorem c51 (c : Int) (s : ByteArray) (w : World) :
 Calls Tryz.prog 51 #[.agg #[.int .i64 c, .string s], .agg #[.int .i64 c, .string s]] w fun e w' => e = .returned (.bool true) ∧ Below w.heap.size w w' := by
 go_enter Tryz.func51, Tryz.ntmps51
 go_wp2
 go_ret
 exact ⟨rfl, ((Below.refl _ _).alloc (Nat.le_refl _) _).alloc (by simp) _⟩
end Go.Proofs.YtboojefodbjbcaaGreatDoor
namespace Go.Proofs.YtboojefodbjbcaaGreatDoor
open Go.RowKit
set_option maxRecDepth 100000
def StrsAt (w : World) (a : Option Addr) (ss : List ByteArray) : Prop :=
 ss = [] ∨ ∃ b off, a = some ⟨b, off, none⟩ ∧ b < w.heap.size ∧ ∀ i, i < ss.length → w.cell? ⟨b, off + i, none⟩ = some (.string (ss.getD i ByteArray.empty))
theorem info9 : (Tryz.prog.info? 9).map (fun i => (i.zero, i.size, i.bytes)) = some (some (.string ⟨#[]⟩), 1, 16) := by kernel_rfl
theorem strs_some {w : World} {a : Option Addr} {ss : List ByteArray} (h : StrsAt w a ss) : ∃ b off, (ss = [] ∨ (a = some ⟨b, off, none⟩ ∧ b < w.heap.size ∧ ∀ i, i < ss.length → w.cell? ⟨b, off + i, none⟩ = some (.string (ss.getD i ByteArray.empty)))) := by
 rcases h with h | ⟨b, off, h⟩
 · exact ⟨0, 0, .inl h⟩
 · exact ⟨b, off, .inr h⟩
theorem strs_below {w w' : World} {a : Option Addr} {ss : List ByteArray} (h : StrsAt w a ss) (hb : Below w.heap.size w w') : StrsAt w' a ss := by
 rcases h with h | ⟨b, off, h1, h2, h3⟩
 · exact .inl h
 · exact .inr ⟨b, off, h1, Nat.lt_of_lt_of_le h2 hb.size, fun i hi => by rw [hb.cell (by exact h2)]; exact h3 i hi⟩
theorem getD_small {ss : List ByteArray} {B : Nat} (h : ∀ i, i < ss.length → (ss.getD i ByteArray.empty).size ≤ B) (i : Nat) : (ss.getD i ByteArray.empty).size ≤ B := by
 rcases Nat.lt_or_ge i ss.length with h' | h'
 · exact h i h'
 · have e : ss.getD i ByteArray.empty = ByteArray.empty := by simp [List.getD, List.getElem?_eq_none h']
   rw [e]; exact Nat.zero_le _
set_option maxHeartbeats 1000000 in
theorem c24 (a : Option Addr) (cap : Nat) (ss : List ByteArray) (w : World) (hs : ∀ i, (ss.getD i ByteArray.empty).size ≤ 9223372036854775807) (hl : ss.length ≤ 9223372036854775807) (hat : StrsAt w a ss) :
 Calls Tryz.prog 24 #[.slice a ss.length cap, .int .i64 1048576] w fun e w' => (∃ r : Int, e = .returned (.int .i64 r) ∧ (0 ≤ r → ss.length ≤ 1048576 ∧ (∀ i, (ss.getD i ByteArray.empty).size ≤ 1048576) ∧ r ≤ 1048576 - ss.length)) ∧ w' = w := by
 obtain ⟨b, off, hc⟩ := strs_some hat
 have HC : Hid (ss = [] ∨ (a = some ⟨b, off, none⟩ ∧ b < w.heap.size ∧ ∀ i, i < ss.length → w.cell? ⟨b, off + i, none⟩ = some (.string (ss.getD i ByteArray.empty)))) := hc
 clear hc hat
 by_cases hbig : 1048576 < ss.length
 · go_enter Tryz.func24, Tryz.ntmps24
   go_wp2
   go_ret
   exact ⟨⟨-1, rfl, fun h => by omega⟩, rfl⟩
 · go_enter Tryz.func24, Tryz.ntmps24
   go_wp2_with fail
   go_loop [1, 5] (fun l i => ∃ (k : Nat) (r : Int), k ≤ ss.length ∧ i = .int .i64 k ∧ l = .int .i64 r ∧ 0 ≤ r ∧ r ≤ 1048576 - ss.length ∧ Hid (∀ i, i < k → (ss.getD i ByteArray.empty).size ≤ 1048576)) (fun _ i => ss.length - (intOf i).toNat)
   case atStart => exact ⟨0, _, Nat.zero_le _, rfl, rfl, by omega, by omega, fun i h => absurd h (Nat.not_lt_zero _)⟩
   case round =>
    obtain ⟨k, r, hk, rfl, rfl, hr0, hr1, hsm⟩ := hrel
    by_cases hlt : k < ss.length
    · rcases HC.out with hss | ⟨ha, hbw, hcell⟩
      · rw [hss] at hlt; exact absurd hlt (Nat.not_lt_zero _)
      subst ha
      have g0 := hcell k hlt
      have hxs := hs k
      generalize hx : ss.getD k ByteArray.empty = x at *
      have HX : Hid (ss.getD k ByteArray.empty = x) := hx
      clear hx hcell
      by_cases hneg : r < x.size
      · go_wp2
        go_ret
        exact ⟨⟨-1, rfl, fun h => by omega⟩, rfl⟩
      · have hsm' : Hid (∀ i, i < k + 1 → (ss.getD i ByteArray.empty).size ≤ 1048576) := by
         intro i h
         rcases Nat.lt_or_ge i k with h1 | h1
         · exact hsm.out i h1
         · obtain rfl : i = k := by omega
           rw [HX.out]; omega
        go_wp2
        go_round
        case rel => exact ⟨k + 1, _, by omega, by go_num, rfl, by omega, by omega, hsm'⟩
        case measure => simp [intOf]; omega
    · have hsm' : Hid (∀ i, (ss.getD i ByteArray.empty).size ≤ 1048576) := getD_small (fun i h => hsm.out i (by omega))
      go_wp2
      go_ret
      exact ⟨⟨r, rfl, fun _ => ⟨by omega, hsm'.out, hr1⟩⟩, rfl⟩
set_option maxHeartbeats 1000000 in
theorem c53 (a a' : Option Addr) (cap cap' : Nat) (ss : List ByteArray) (w : World) (hl : ss.length ≤ 1048576) (hat : StrsAt w a ss) (hat' : StrsAt w a' ss) :
 Calls Tryz.prog 53 #[.slice a ss.length cap, .slice a' ss.length cap'] w fun e w' => e = .returned (.bool true) ∧ Below w.heap.size w w' := by
 obtain ⟨b, off, hc⟩ := strs_some hat
 have HC : Hid (ss = [] ∨ (a = some ⟨b, off, none⟩ ∧ b < w.heap.size ∧ ∀ i, i < ss.length → w.cell? ⟨b, off + i, none⟩ = some (.string (ss.getD i ByteArray.empty)))) := hc
 clear hc hat
 obtain ⟨b', off', hc'⟩ := strs_some hat'
 have HC' : Hid (ss = [] ∨ (a' = some ⟨b', off', none⟩ ∧ b' < w.heap.size ∧ ∀ i, i < ss.length → w.cell? ⟨b', off' + i, none⟩ = some (.string (ss.getD i ByteArray.empty)))) := hc'
 clear hc' hat'
 go_enter Tryz.func53, Tryz.ntmps53
 go_wp2_with fail
 go_loopw [5] (fun i wr => ∃ (k nq : Nat), k ≤ ss.length ∧ i = .int .i64 k ∧ wr = w.drewN nq) (fun i _ => ss.length - (intOf i).toNat)
 case atStart => exact ⟨0, 0, Nat.zero_le _, rfl, rfl⟩
 case round =>
  obtain ⟨k, nq, hk, rfl, rfl⟩ := hrel
  by_cases hlt : k < ss.length
  · rcases HC.out with hss | ⟨ha, hbw, hcell⟩
    · rw [hss] at hlt; exact absurd hlt (Nat.not_lt_zero _)
    rcases HC'.out with hss | ⟨ha', hbw', hcell'⟩
    · rw [hss] at hlt; exact absurd hlt (Nat.not_lt_zero _)
    subst ha
    subst ha'
    have g0 := hcell k hlt
    have g1 := hcell' k hlt
    generalize ss.getD k ByteArray.empty = x at *
    clear hcell hcell'
    go_wp2_with fail
    go_quiet (fail)
    go_wp2
    go_roundw
    case rel => exact ⟨k + 1, _, by omega, by go_num, rfl⟩
    case measure => simp [intOf]; omega
  · go_wp2
    go_ret
    exact ⟨rfl, below_drewN _⟩
end Go.Proofs.YtboojefodbjbcaaGreatDoor
namespace Go.Proofs.YtboojefodbjbcaaGreatDoor
open Go.RowKit
set_option maxRecDepth 100000
structure G3 where
 nm : Bool
 tl : ByteArray
 ar : ByteArray
def g3z : G3 := ⟨false, ⟨#[]⟩, ⟨#[]⟩⟩
def G3.v (x : G3) : Value := .agg #[.bool x.nm, .string x.tl, .string x.ar]
def G3.le (x : G3) (B : Nat) : Prop := x.tl.size ≤ B ∧ x.ar.size ≤ B
def GlsAt (w : World) (a : Option Addr) (is : List G3) : Prop :=
 is = [] ∨ ∃ b off, a = some ⟨b, off, none⟩ ∧ b < w.heap.size ∧ ∀ i, i < is.length → w.cell? ⟨b, off + i * 3, none⟩ = some (.bool (is.getD i g3z).nm) ∧ w.cell? ⟨b, off + i * 3 + 1, none⟩ = some (.string (is.getD i g3z).tl) ∧ w.cell? ⟨b, off + i * 3 + 2, none⟩ = some (.string (is.getD i g3z).ar)
set_option maxHeartbeats 1000000 in
theorem c120 (x : G3) (l : Int) (w : World) (hs : x.le 9223372036854775807) (h0 : 0 ≤ l) (h1 : l ≤ 1048576) :
 Calls Tryz.prog 120 #[.agg #[.bool x.nm, .string x.tl, .string x.ar], .int .i64 l] w fun e w' => (∃ r : Int, e = .returned (.int .i64 r) ∧ (0 ≤ r → x.le 1048576 ∧ r ≤ l)) ∧ Below w.heap.size w w' := by
 obtain ⟨s2, s3⟩ := hs
 have HL : Hid (∀ r : Int, (0 ≤ r → ((x.tl.size : Int) ≤ l ∧ (x.ar.size : Int) ≤ l ∧ r ≤ l)) → (0 ≤ r → x.le 1048576 ∧ r ≤ l)) := fun r h g => by
  have := h g
  exact ⟨⟨by omega, by omega⟩, by omega⟩
 by_cases h' : l < x.tl.size
 · go_enter Tryz.func120, Tryz.ntmps120
   go_wp2
   go_ret
   exact ⟨⟨-1, rfl, HL.out _ fun h => by omega⟩, (Below.refl _ _).alloc (Nat.le_refl _) _⟩
 · by_cases h'' : l < x.tl.size + x.ar.size
   · go_enter Tryz.func120, Tryz.ntmps120
     go_wp2
     go_ret
     exact ⟨⟨-1, rfl, HL.out _ fun h => by omega⟩, (Below.refl _ _).alloc (Nat.le_refl _) _⟩
   · go_enter Tryz.func120, Tryz.ntmps120
     go_wp2
     go_ret
     exact ⟨⟨_, rfl, HL.out _ fun h => by omega⟩, (Below.refl _ _).alloc (Nat.le_refl _) _⟩
theorem gls_some {w : World} {a : Option Addr} {is : List G3} (h : GlsAt w a is) : ∃ b off, (is = [] ∨ (a = some ⟨b, off, none⟩ ∧ b < w.heap.size ∧ ∀ i, i < is.length → w.cell? ⟨b, off + i * 3, none⟩ = some (.bool (is.getD i g3z).nm) ∧ w.cell? ⟨b, off + i * 3 + 1, none⟩ = some (.string (is.getD i g3z).tl) ∧ w.cell? ⟨b, off + i * 3 + 2, none⟩ = some (.string (is.getD i g3z).ar))) := by
 rcases h with h | ⟨b, off, h⟩
 · exact ⟨0, 0, .inl h⟩
 · exact ⟨b, off, .inr h⟩
theorem gls_below {w w' : World} {a : Option Addr} {is : List G3} (h : GlsAt w a is) (hb : Below w.heap.size w w') : GlsAt w' a is := by
 rcases h with h | ⟨b, off, h1, h2, h3⟩
 · exact .inl h
 · exact .inr ⟨b, off, h1, Nat.lt_of_lt_of_le h2 hb.size, fun i hi => by rw [hb.cell (by exact h2), hb.cell (by exact h2), hb.cell (by exact h2)]; exact h3 i hi⟩
theorem getD_smallG {is : List G3} {B : Nat} (h : ∀ i, i < is.length → (is.getD i g3z).le B) (i : Nat) : (is.getD i g3z).le B := by
 rcases Nat.lt_or_ge i is.length with h' | h'
 · exact h i h'
 · have e : is.getD i g3z = g3z := by simp [List.getD, List.getElem?_eq_none h']
   rw [e]; exact ⟨Nat.zero_le _, Nat.zero_le _⟩
set_option maxHeartbeats 1000000 in
theorem c102 (a : Option Addr) (cap : Nat) (is : List G3) (l : Int) (w : World) (h0 : 0 ≤ l) (h1 : l ≤ 1048576) (hs : ∀ i, (is.getD i g3z).le 9223372036854775807) (hl : is.length ≤ 9223372036854775807) (hat : GlsAt w a is) :
 Calls Tryz.prog 102 #[.slice a is.length cap, .int .i64 l] w fun e w' => (∃ r : Int, e = .returned (.int .i64 r) ∧ (0 ≤ r → is.length ≤ 1048576 ∧ (∀ i, (is.getD i g3z).le 1048576) ∧ r ≤ l - is.length)) ∧ Below w.heap.size w w' := by
 obtain ⟨b, off, hc⟩ := gls_some hat
 have HC : Hid (is = [] ∨ (a = some ⟨b, off, none⟩ ∧ b < w.heap.size ∧ ∀ i, i < is.length → w.cell? ⟨b, off + i * 3, none⟩ = some (.bool (is.getD i g3z).nm) ∧ w.cell? ⟨b, off + i * 3 + 1, none⟩ = some (.string (is.getD i g3z).tl) ∧ w.cell? ⟨b, off + i * 3 + 2, none⟩ = some (.string (is.getD i g3z).ar))) := hc
 clear hc hat
 by_cases hbig : l < is.length
 · go_enter Tryz.func102, Tryz.ntmps102
   go_wp2
   go_ret
   exact ⟨⟨-1, rfl, fun h => by omega⟩, Below.refl _ _⟩
 · go_enter Tryz.func102, Tryz.ntmps102
   go_wp2_with fail
   go_loopw [1, 5] (fun l' i wr => ∃ (k : Nat) (r : Int), k ≤ is.length ∧ i = .int .i64 k ∧ l' = .int .i64 r ∧ 0 ≤ r ∧ r ≤ l - is.length ∧ Hid (∀ i, i < k → (is.getD i g3z).le 1048576) ∧ Below w.heap.size w wr) (fun _ i _ => is.length - (intOf i).toNat)
   case atStart => exact ⟨0, _, Nat.zero_le _, rfl, rfl, by omega, by omega, fun i h => absurd h (Nat.not_lt_zero _), Below.refl _ _⟩
   case round =>
    obtain ⟨k, r, hk, rfl, rfl, hr0, hr1, hsm, hb⟩ := hrel
    by_cases hlt : k < is.length
    · rcases HC.out with hss | ⟨ha, hbw, hcell⟩
      · rw [hss] at hlt; exact absurd hlt (Nat.not_lt_zero _)
      subst ha
      have g0 := (hb.cell (p := ⟨b, off + k * 3, none⟩) hbw).trans (hcell k hlt).1
      have g1 := (hb.cell (p := ⟨b, off + k * 3 + 1, none⟩) hbw).trans (hcell k hlt).2.1
      have g2 := (hb.cell (p := ⟨b, off + k * 3 + 2, none⟩) hbw).trans (hcell k hlt).2.2
      have hxs := hs k
      generalize hx : is.getD k g3z = x at *
      have HX : Hid (is.getD k g3z = x) := hx
      clear hx hcell
      go_wp2_with fail
      refine (c120 x r wr hxs hr0 (by omega)).mono ?_
      rintro e w1 ⟨⟨r1, rfl, hr⟩, hb1⟩
      have hB1 : Below w.heap.size w w1 := hb.trans (hb1.mono hb.size)
      by_cases hneg : r1 < 0
      · clear hr
        go_wp2
        go_ret
        exact ⟨⟨-1, rfl, fun h => by omega⟩, hB1⟩
      · have hr' := hr (by omega)
        have hsm' : Hid (∀ i, i < k + 1 → (is.getD i g3z).le 1048576) := by
         intro i h
         rcases Nat.lt_or_ge i k with h1 | h1
         · exact hsm.out i h1
         · obtain rfl : i = k := by omega
           rw [HX.out]; exact hr'.1
        clear hr
        go_wp2
        go_roundw
        case rel => exact ⟨k + 1, _, by omega, by go_num, rfl, by omega, Int.le_trans hr'.2 hr1, hsm', hB1⟩
        case measure => simp [intOf]; omega
    · have hsm' : Hid (∀ i, (is.getD i g3z).le 1048576) := getD_smallG (fun i h => hsm.out i (by omega))
      go_wp2
      go_ret
      exact ⟨⟨r, rfl, fun _ => ⟨by omega, hsm'.out, hr1⟩⟩, hb⟩
set_option maxHeartbeats 400000 in
theorem c122 (x : G3) (w : World) :
 Calls Tryz.prog 122 #[.agg #[.bool x.nm, .string x.tl, .string x.ar]] w fun e w' => e = .returned (.agg #[.bool x.nm, .string x.tl, .string x.ar]) ∧ Below w.heap.size w w' := by
 go_enter Tryz.func122, Tryz.ntmps122
 go_wp2
 refine bodyPost_ret (v := .agg #[.bool x.nm, .string x.tl, .string x.ar]) (by simp [results, Tryz.results122, go_sem]) rfl ⟨rfl, ?_⟩
 exact (((Below.refl _ _).alloc (Nat.le_refl _) _).alloc (by simp) _).alloc (by simp; omega) _
theorem set3_at (u : World) (B j : Nat) (v0 v1 v2 x0 x1 x2 : Value) (h0 : u.cell? ⟨B, j, none⟩ = some x0) (h1 : u.cell? ⟨B, j + 1, none⟩ = some x1) (h2 : u.cell? ⟨B, j + 2, none⟩ = some x2) :
 (((u.setCell ⟨B, j, none⟩ v0).setCell ⟨B, j + 1, none⟩ v1).setCell ⟨B, j + 2, none⟩ v2).cell? ⟨B, j, none⟩ = some v0 ∧ (((u.setCell ⟨B, j, none⟩ v0).setCell ⟨B, j + 1, none⟩ v1).setCell ⟨B, j + 2, none⟩ v2).cell? ⟨B, j + 1, none⟩ = some v1 ∧ (((u.setCell ⟨B, j, none⟩ v0).setCell ⟨B, j + 1, none⟩ v1).setCell ⟨B, j + 2, none⟩ v2).cell? ⟨B, j + 2, none⟩ = some v2 := by
 have a1 : (u.setCell ⟨B, j, none⟩ v0).cell? ⟨B, j + 1, none⟩ = some x1 := by rw [World.cell?_setCell_other _ _ _ _ (adr_ne (by omega))]; exact h1
 have a2 : ((u.setCell ⟨B, j, none⟩ v0).setCell ⟨B, j + 1, none⟩ v1).cell? ⟨B, j + 2, none⟩ = some x2 := by
  rw [World.cell?_setCell_other _ _ _ _ (adr_ne (by omega)), World.cell?_setCell_other _ _ _ _ (adr_ne (by omega))]; exact h2
 refine ⟨?_, ?_, World.cell?_setCell_same _ _ _ a2⟩
 · rw [World.cell?_setCell_other _ _ _ _ (adr_ne (by omega)), World.cell?_setCell_other _ _ _ _ (adr_ne (by omega))]; exact World.cell?_setCell_same _ _ _ h0
 · rw [World.cell?_setCell_other _ _ _ _ (adr_ne (by omega))]; exact World.cell?_setCell_same _ _ _ a1
theorem info127 : (Tryz.prog.info? 127).map (fun i => (i.zero, i.size, i.bytes)) = some (some (.agg #[.bool false, .string ⟨#[]⟩, .string ⟨#[]⟩]), 3, 40) := by kernel_rfl
theorem madeG (n j : Nat) (h : j < n * 3) : (madeCells #[Value.bool false, .string ⟨#[]⟩, .string ⟨#[]⟩] (n * 3))[j]? = (#[Value.bool false, .string ⟨#[]⟩, .string ⟨#[]⟩] : Array Value)[j % 3]? := by
 have h3 : j % 3 < 3 := Nat.mod_lt _ (by omega)
 rw [Array.getElem?_eq_getElem (by simpa [size_madeCells] using h), Array.getElem?_eq_getElem (by simpa using h3)]
 simp [madeCells, h3]
set_option maxHeartbeats 400000 in
theorem c136 (x : G3) (w : World) :
 Calls Tryz.prog 136 #[.agg #[.bool x.nm, .string x.tl, .string x.ar], .agg #[.bool x.nm, .string x.tl, .string x.ar]] w fun e w' => e = .returned (.bool true) ∧ Below w.heap.size w w' := by
 go_enter Tryz.func136, Tryz.ntmps136
 go_wp2
 go_ret
 exact ⟨rfl, ((Below.refl _ _).alloc (Nat.le_refl _) _).alloc (by simp) _⟩
set_option maxHeartbeats 1000000 in
theorem c119 (a a' : Option Addr) (cap cap' : Nat) (is : List G3) (w : World) (hl : is.length ≤ 1048576) (hat : GlsAt w a is) (hat' : GlsAt w a' is) :
 Calls Tryz.prog 119 #[.slice a is.length cap, .slice a' is.length cap'] w fun e w' => e = .returned (.bool true) ∧ Below w.heap.size w w' := by
 obtain ⟨b, off, hc⟩ := gls_some hat
 have HC : Hid (is = [] ∨ (a = some ⟨b, off, none⟩ ∧ b < w.heap.size ∧ ∀ i, i < is.length → w.cell? ⟨b, off + i * 3, none⟩ = some (.bool (is.getD i g3z).nm) ∧ w.cell? ⟨b, off + i * 3 + 1, none⟩ = some (.string (is.getD i g3z).tl) ∧ w.cell? ⟨b, off + i * 3 + 2, none⟩ = some (.string (is.getD i g3z).ar))) := hc
 clear hc hat
 obtain ⟨b', off', hc'⟩ := gls_some hat'
 have HC' : Hid (is = [] ∨ (a' = some ⟨b', off', none⟩ ∧ b' < w.heap.size ∧ ∀ i, i < is.length → w.cell? ⟨b', off' + i * 3, none⟩ = some (.bool (is.getD i g3z).nm) ∧ w.cell? ⟨b', off' + i * 3 + 1, none⟩ = some (.string (is.getD i g3z).tl) ∧ w.cell? ⟨b', off' + i * 3 + 2, none⟩ = some (.string (is.getD i g3z).ar))) := hc'
 clear hc' hat'
 go_enter Tryz.func119, Tryz.ntmps119
 go_wp2_with fail
 go_loopw [5] (fun i wr => ∃ (k : Nat), k ≤ is.length ∧ i = .int .i64 k ∧ Below w.heap.size w wr) (fun i _ => is.length - (intOf i).toNat)
 case atStart => exact ⟨0, Nat.zero_le _, rfl, Below.refl _ _⟩
 case round =>
  obtain ⟨k, hk, rfl, hb⟩ := hrel
  by_cases hlt : k < is.length
  · rcases HC.out with hss | ⟨ha, hbw, hcell⟩
    · rw [hss] at hlt; exact absurd hlt (Nat.not_lt_zero _)
    rcases HC'.out with hss | ⟨ha', hbw', hcell'⟩
    · rw [hss] at hlt; exact absurd hlt (Nat.not_lt_zero _)
    subst ha
    subst ha'
    have g0 := (hb.cell (p := ⟨b, off + k * 3, none⟩) hbw).trans (hcell k hlt).1
    have g1 := (hb.cell (p := ⟨b, off + k * 3 + 1, none⟩) hbw).trans (hcell k hlt).2.1
    have g2 := (hb.cell (p := ⟨b, off + k * 3 + 2, none⟩) hbw).trans (hcell k hlt).2.2
    have g0' := (hb.cell (p := ⟨b', off' + k * 3, none⟩) hbw').trans (hcell' k hlt).1
    have g1' := (hb.cell (p := ⟨b', off' + k * 3 + 1, none⟩) hbw').trans (hcell' k hlt).2.1
    have g2' := (hb.cell (p := ⟨b', off' + k * 3 + 2, none⟩) hbw').trans (hcell' k hlt).2.2
    generalize is.getD k g3z = x at *
    clear hcell hcell'
    go_wp2_with fail
    go_region_with (go_at_call 136; refine (c136 x _).mono ?_; rintro e w1 ⟨rfl, hb1⟩)
    all_goals go_wp2
    all_goals go_roundw
    all_goals first
     | exact ⟨k + 1, by omega, by go_num, (hb.drew).trans (hb1.mono hb.size)⟩
     | (simp [intOf]; omega)
  · go_wp2
    go_ret
    exact ⟨rfl, hb⟩
end Go.Proofs.YtboojefodbjbcaaGreatDoor
