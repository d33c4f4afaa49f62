import Derived.Test.YtkhlekmicpmpkaaGreatDoorZK03
import Derived.Deep.QuietTactic
import Derived.BigQuiet
import Derived.WalkSpells
import Derived.WalkLawsBesides
namespace Go.Proofs.YtkhlekmicpmpkaaGreatDoor
open Go.RowKit
set_option maxRecDepth 100000
theorem ofL_data (l : List UInt8) : (ofL l).data.toList = l := by simp [ofL]
theorem ofL_self (s : ByteArray) : ofL s.data.toList = s := by apply ByteArray.ext; simp [ofL]
theorem cut_small (l : List UInt8) : (Lib.cut l [58]).1.length ≤ l.length ∧ (Lib.cut l [58]).2.1.length ≤ l.length := by
 unfold Lib.cut
 split
 · simp only [List.length_take, List.length_drop]; omega
 · simp
theorem adr_ne {B j k : Nat} (h : j ≠ k) : (⟨B, j, none⟩ : Addr) ≠ ⟨B, k, none⟩ := fun e => h (by cases e; rfl)
theorem rz2 {w u : World} (hb : Below (w.heap.size + 1) (w.alloc (.cells #[.int .i64 0, .string ⟨#[]⟩] 45)) u) :
 (u.cell? ⟨w.heap.size, 0, none⟩ = some (.int .i64 0) ∧ u.cell? ⟨w.heap.size, 1, none⟩ = some (.string ⟨#[]⟩)) ∧ u.frozen? ⟨w.heap.size, 0, none⟩ = false ∧ u.frozen? ⟨w.heap.size, 1, none⟩ = false := by
 have c : ∀ j, u.cell? ⟨w.heap.size, j, none⟩ = (w.alloc (.cells #[.int .i64 0, .string ⟨#[]⟩] 45)).cell? ⟨w.heap.size, j, none⟩ := fun j => hb.cell (by simp)
 have f : ∀ j, u.frozen? ⟨w.heap.size, j, none⟩ = (w.alloc (.cells #[.int .i64 0, .string ⟨#[]⟩] 45)).frozen? ⟨w.heap.size, j, none⟩ := fun j => hb.frozen (by simp)
 rw [c, c, f, f]
 simp
theorem pastf {w : World} {p : Addr} (hp : p.block < w.heap.size) (h : w.frozen? p = false) (o : Obj) : (w.alloc o).frozen? p = false := by
 rw [((Below.refl w.heap.size w).alloc (Nat.le_refl _) o).frozen hp]; exact h
theorem set2_at (u : World) (B : Nat) (v0 v1 x0 x1 : Value) (h0 : u.cell? ⟨B, 0, none⟩ = some x0) (h1 : u.cell? ⟨B, 1, none⟩ = some x1) :
 ((u.setCell ⟨B, 0, none⟩ v0).setCell ⟨B, 1, none⟩ v1).cell? ⟨B, 0, none⟩ = some v0 ∧ ((u.setCell ⟨B, 0, none⟩ v0).setCell ⟨B, 1, none⟩ v1).cell? ⟨B, 1, none⟩ = some v1 := by
 have a1 : (u.setCell ⟨B, 0, none⟩ v0).cell? ⟨B, 1, none⟩ = some x1 := by rw [World.cell?_setCell_other _ _ _ _ (adr_ne (by omega))]; exact h1
 refine ⟨?_, World.cell?_setCell_same _ _ _ a1⟩
 rw [World.cell?_setCell_other _ _ _ _ (adr_ne (by omega))]; exact World.cell?_setCell_same _ _ _ h0
set_option maxHeartbeats 2000000 in
theorem c57 (l : List UInt8) (w : World) (hs : l.length ≤ 1048700) (hm : MaxAt w) :
 Calls Tryz.prog 57 #[.string (ofL l)] w fun e w' => Is56 l e ∧ Below w.heap.size w w' := by
 have hcs := cut_small l
 have hI := @isR_impl l
 have hB0 : Below w.heap.size w (w.alloc (.cells #[.int .i64 0, .string ⟨#[]⟩] 45)) := (Below.refl w.heap.size w).alloc (Nat.le_refl _) _
 have hc14 := c82w l _ hs (max_below hm hB0)
 generalize ha : (Lib.cut l [58]).1 = a at hcs hI hc14
 generalize ht : (Lib.cut l [58]).2.1 = t at hcs hI hc14
 generalize hk : (Lib.cut l [58]).2.2 = k at hcs hI hc14
 clear ha ht hk
 have h15 := c83s (ofL a)
 rw [ofL_data, ofL_size] at h15
 have h16 := fun c => c62 c (ofL t)
 rw [ofL_data, ofL_size] at h16
 obtain ⟨hca, hct⟩ := hcs
 go_enter Tryz.func57, Tryz.ntmps57
 go_wp2_with fail
 refine hc14.mono ?_
 rintro e w2 ⟨rfl, hb1⟩
 have hx2 : Below (w.heap.size + 1) (w.alloc (.cells #[.int .i64 0, .string ⟨#[]⟩] 45)) w2 := by simpa using hb1
 have hB2 : Below w.heap.size w w2 := hB0.trans (hx2.mono (by omega))
 have hR2 : w.heap.size < w2.heap.size := by have := hx2.size; simp at this; omega
 clear hb1 hc14
 go_wp2_with fail
 refine (h15 _ (by omega)).mono ?_
 rintro e w' ⟨rfl, hw'⟩
 obtain rfl := hw'.symm
 clear hw'
 obtain ⟨⟨z0, z1⟩, y0, y1⟩ := rz2 hx2
 have z0' := past (by exact hR2) z0
 have z1' := past (by exact hR2) z1
 have y0' := pastf (by exact hR2) y0
 have y1' := pastf (by exact hR2) y1
 have hno : ¬ (k = true ∧ num7 a = true ∧ vr (rn7 a) t = true) → Hid (Is56 l (.returned (.tuple #[.agg #[.int .i64 0, .string ⟨#[]⟩], .bool false]))) := fun h => ⟨0, [], false, rfl, hI.2 h, Nat.zero_le _⟩
 cases hk : k
 · have HI := hno (by rw [hk]; simp)
   clear hno hI
   go_wp2
   have F := set2_at w2 w.heap.size (.int .i64 0) (.string ⟨#[]⟩) _ _ z0 z1
   have G0 := past (p := ⟨w.heap.size, 0, none⟩) (by simpa using hR2) F.1
   have G1 := past (p := ⟨w.heap.size, 1, none⟩) (by simpa using hR2) F.2
   refine bodyPost_ret (v := .tuple #[.agg #[.int .i64 0, .string ⟨#[]⟩], .bool false]) (by simp [results, Tryz.results57, go_sem, G0, G1]) rfl ⟨HI.out, ?_⟩
   first
    | exact ((hB2.setCell (by simp) _).setCell (by simp) _).alloc (by simpa using hB2.size) _
    | exact ((hB2.setCell (by simp) _).setCell (by simp) _)
 cases h7 : num7 a
 · have HI := hno (by rw [h7]; simp)
   clear hno hI
   go_wp2
   have F := set2_at w2 w.heap.size (.int .i64 0) (.string ⟨#[]⟩) _ _ z0 z1
   have G0 := past (p := ⟨w.heap.size, 0, none⟩) (by simpa using hR2) F.1
   have G1 := past (p := ⟨w.heap.size, 1, none⟩) (by simpa using hR2) F.2
   refine bodyPost_ret (v := .tuple #[.agg #[.int .i64 0, .string ⟨#[]⟩], .bool false]) (by simp [results, Tryz.results57, go_sem, G0, G1]) rfl ⟨HI.out, ?_⟩
   first
    | exact ((hB2.setCell (by simp) _).setCell (by simp) _).alloc (by simpa using hB2.size) _
    | exact ((hB2.setCell (by simp) _).setCell (by simp) _)
 go_wp2_with fail
 refine (h16 _ _ (by omega)).mono ?_
 rintro e w3 ⟨rfl, hb3⟩
 have hx3 := (hx2.alloc (by omega) (.cells #[.int .i64 (rn7 a), .string (ofL t)] 45)).trans (hb3.mono (by simp; omega))
 have hB3 : Below w.heap.size w w3 := hB0.trans (hx3.mono (by omega))
 have hR3 : w2.heap.size < w3.heap.size := by have := hb3.size; simp at this; omega
 have r0 : w3.cell? ⟨w2.heap.size, 0, none⟩ = some (.int .i64 (rn7 a)) := by rw [hb3.cell (by simp)]; simp
 have r1 : w3.cell? ⟨w2.heap.size, 1, none⟩ = some (.string (ofL t)) := by rw [hb3.cell (by simp)]; simp
 clear z0 z1 y0 y1 z0' z1' y0' y1' hb3
 obtain ⟨⟨z0, z1⟩, y0, y1⟩ := rz2 hx3
 cases hv : vr (rn7 a) t
 · have HI := hno (by rw [hv]; simp)
   clear hno hI
   go_wp2
   refine bodyPost_ret (v := .tuple #[.agg #[.int .i64 0, .string ⟨#[]⟩], .bool false]) (by simp [results, Tryz.results57, go_sem, z0, z1]) rfl ⟨HI.out, ?_⟩
   exact ((hB3.setCell (by simp) _).setCell (by simp) _)
 · have HI : Hid (Is56 l (.returned (.tuple #[.agg #[.int .i64 (rn7 a), .string (ofL t)], .bool true]))) := ⟨rn7 a, t, true, rfl, hI.1 hk h7 hv, hct⟩
   clear hno hI hv
   go_wp2
   have F := set2_at w3 w.heap.size (.int .i64 (rn7 a)) (.string (ofL t)) _ _ z0 z1
   refine bodyPost_ret (v := .tuple #[.agg #[.int .i64 (rn7 a), .string (ofL t)], .bool true]) (by simp [results, Tryz.results57, go_sem, F.1, F.2]) rfl ⟨HI.out, ?_⟩
   exact ((hB3.setCell (by simp) _).setCell (by simp) _)
end Go.Proofs.YtkhlekmicpmpkaaGreatDoor
namespace Go.Proofs.YtkhlekmicpmpkaaGreatDoor
open Go.RowKit
set_option maxRecDepth 100000
theorem drop2 (s : ByteArray) : s.extract 2 s.size = ofL (s.data.toList.drop 2) := by
 apply ByteArray.ext
 apply Array.toList_inj.1
 simp [ofL, ByteArray.data_extract]
 exact List.take_of_length_le (by simp)
set_option maxHeartbeats 2000000 in
theorem c46 (s : ByteArray) (w : World) (hs : s.size ≤ 1048700) :
 Calls Tryz.prog 46 #[.string s] w fun e w' => Is56 s.data.toList e ∧ Below w.heap.size w w' := by
 have hlen : s.data.toList.length = s.size := by simp
 have hB0 : Below w.heap.size w (w.alloc (.cells #[.int .i64 0, .string ⟨#[]⟩] 45)) := (Below.refl w.heap.size w).alloc (Nat.le_refl _) _
 have hno : IsR s.data.toList 0 [] false → Hid (Is56 s.data.toList (.returned (.tuple #[.agg #[.int .i64 0, .string ⟨#[]⟩], .bool false]))) := fun h => ⟨0, [], false, rfl, h, Nat.zero_le _⟩
 by_cases h2 : s.size < 2
 · have HI := hno (isR_short (by omega))
   clear hno hlen
   go_enter Tryz.func46, Tryz.ntmps46
   go_wp2
   refine bodyPost_ret (v := .tuple #[.agg #[.int .i64 0, .string ⟨#[]⟩], .bool false]) (by simp [results, Tryz.results46, go_sem]) rfl ⟨HI.out, hB0⟩
 have h0 : 0 < s.size := by omega
 have hh := head_zero s h0
 by_cases hd : (s[0].toNat : Int) < 48 ∨ 57 < (s[0].toNat : Int)
 · have HI := hno (isR_nodig (by rw [hh]; exact hd))
   clear hno hlen hh
   rcases hd with hd | hd
   all_goals
    go_enter Tryz.func46, Tryz.ntmps46
    go_wp2
    refine bodyPost_ret (v := .tuple #[.agg #[.int .i64 0, .string ⟨#[]⟩], .bool false]) (by simp [results, Tryz.results46, go_sem]) rfl ⟨HI.out, hB0⟩
 · have hd' : 48 ≤ (s[0].toNat : Int) ∧ (s[0].toNat : Int) ≤ 57 := by omega
   have hw := byte_sub _ hd'
   have hS := isR_spec (l := s.data.toList) (x := s[0]) (c := (s[0].toNat : Int) - 48) (by omega) hh (by omega) (by omega)
   have hx := drop2 s
   clear hh hd
   have hdl : (s.data.toList.drop 2).length ≤ s.data.toList.length := by simp
   generalize hT : s.data.toList.drop 2 = T at hS hx hdl
   clear hT
   have h13 := c26 ((s[0].toNat : Int) - 48) (ofL T)
   rw [ofL_data, ofL_size] at h13
   generalize hL : s.data.toList = L at *
   generalize hC : (s[0].toNat : Int) - 48 = C at *
   obtain ⟨d1, d2⟩ := hd'
   go_enter Tryz.func46, Tryz.ntmps46
   go_wp2_with fail
   go_region
   all_goals
    go_wp2_with fail
    refine (h13 _ (by omega)).mono ?_
    rintro e w3 ⟨rfl, hb3⟩
    have hz3 : w.heap.size + 2 ≤ w3.heap.size := by have := hb3.size; simp at this; omega
    have hx3 : Below (w.heap.size + 1) (w.alloc (.cells #[.int .i64 0, .string ⟨#[]⟩] 45)) w3 := by
     refine Below.trans ?_ (hb3.mono (by simp))
     first | exact ((Below.refl _ _).alloc (by simp) _).drew | exact (Below.refl _ _).alloc (by simp) _
    have hB3 : Below w.heap.size w w3 := hB0.trans (hx3.mono (by omega))
    have r0 : w3.cell? ⟨w.heap.size + 1, 0, none⟩ = some (.int .i64 C) := by rw [hb3.cell (by simp)]; simp [go_sem]
    have r1 : w3.cell? ⟨w.heap.size + 1, 1, none⟩ = some (.string (ofL T)) := by rw [hb3.cell (by simp)]; simp [go_sem]
    obtain ⟨⟨z0, z1⟩, y0, y1⟩ := rz2 hx3
    clear hb3 h13
    by_cases hf : formR C T = L
    · have HI : Hid (Is56 L (.returned (.tuple #[.agg #[.int .i64 C, .string (ofL T)], .bool true]))) := ⟨C, T, true, rfl, hS.1 hf, hdl⟩
      have e1 : ((ofL (formR C T)).toList == s.toList) = true := by rw [hf, ByteArray.toList_eq, ByteArray.toList_eq, ofL_data, hL]; simp
      have e2 : (ofL (formR C T)).toList = s.toList := by simpa using e1
      clear hno hS hf
      go_wp2
      have F := set2_at w3 w.heap.size (.int .i64 C) (.string (ofL T)) _ _ z0 z1
      refine bodyPost_ret (v := .tuple #[.agg #[.int .i64 C, .string (ofL T)], .bool true]) (by simp [results, Tryz.results46, go_sem, F.1, F.2]) rfl ⟨HI.out, ?_⟩
      exact ((hB3.setCell (by simp) _).setCell (by simp) _)
    · have HI := hno (hS.2 hf)
      have e2 : ¬ (ofL (formR C T)).toList = s.toList := by rw [ByteArray.toList_eq, ByteArray.toList_eq, ofL_data, hL]; exact hf
      have e1 : ((ofL (formR C T)).toList == s.toList) = false := by simpa using e2
      clear hno hS hf
      go_wp2
      have F := set2_at w3 w.heap.size (.int .i64 0) (.string ⟨#[]⟩) _ _ z0 z1
      refine bodyPost_ret (v := .tuple #[.agg #[.int .i64 0, .string ⟨#[]⟩], .bool false]) (by simp [results, Tryz.results46, go_sem, F.1, F.2]) rfl ⟨HI.out, ?_⟩
      exact ((hB3.setCell (by simp) _).setCell (by simp) _)
set_option maxHeartbeats 1000000 in
theorem c71 (c : Int) (s : ByteArray) (w : World) :
 Calls Tryz.prog 71 #[.agg #[.int .i64 c, .string s], .agg #[.int .i64 c, .string s]] w fun e w' => e = .returned (.bool true) ∧ Below w.heap.size w w' := by
 go_enter Tryz.func71, Tryz.ntmps71
 go_wp2
 go_ret
 exact ⟨rfl, ((Below.refl _ _).alloc (Nat.le_refl _) _).alloc (by simp) _⟩
end Go.Proofs.YtkhlekmicpmpkaaGreatDoor
namespace Go.Proofs.YtkhlekmicpmpkaaGreatDoor
open Go.RowKit
set_option maxRecDepth 100000
def StrsAt (w : World) (a : Option Addr) (ss : List ByteArray) : Prop :=
 ss = [] ∨ ∃ b off, a = some ⟨b, off, none⟩ ∧ b < w.heap.size ∧ ∀ i, i < ss.length → w.cell? ⟨b, off + i, none⟩ = some (.string (ss.getD i ByteArray.empty))
theorem info9 : (Tryz.prog.info? 9).map (fun i => (i.zero, i.size, i.bytes)) = some (some (.string ⟨#[]⟩), 1, 16) := by kernel_rfl
theorem strs_some {w : World} {a : Option Addr} {ss : List ByteArray} (h : StrsAt w a ss) : ∃ b off, (ss = [] ∨ (a = some ⟨b, off, none⟩ ∧ b < w.heap.size ∧ ∀ i, i < ss.length → w.cell? ⟨b, off + i, none⟩ = some (.string (ss.getD i ByteArray.empty)))) := by
 rcases h with h | ⟨b, off, h⟩
 · exact ⟨0, 0, .inl h⟩
 · exact ⟨b, off, .inr h⟩
theorem strs_below {w w' : World} {a : Option Addr} {ss : List ByteArray} (h : StrsAt w a ss) (hb : Below w.heap.size w w') : StrsAt w' a ss := by
 rcases h with h | ⟨b, off, h1, h2, h3⟩
 · exact .inl h
 · exact .inr ⟨b, off, h1, Nat.lt_of_lt_of_le h2 hb.size, fun i hi => by rw [hb.cell (by exact h2)]; exact h3 i hi⟩
theorem getD_small {ss : List ByteArray} {B : Nat} (h : ∀ i, i < ss.length → (ss.getD i ByteArray.empty).size ≤ B) (i : Nat) : (ss.getD i ByteArray.empty).size ≤ B := by
 rcases Nat.lt_or_ge i ss.length with h' | h'
 · exact h i h'
 · have e : ss.getD i ByteArray.empty = ByteArray.empty := by simp [List.getD, List.getElem?_eq_none h']
   rw [e]; exact Nat.zero_le _
set_option maxHeartbeats 1000000 in
theorem c19 (a : Option Addr) (cap : Nat) (ss : List ByteArray) (w : World) (hs : ∀ i, (ss.getD i ByteArray.empty).size ≤ 9223372036854775807) (hl : ss.length ≤ 9223372036854775807) (hat : StrsAt w a ss) :
 Calls Tryz.prog 19 #[.slice a ss.length cap, .int .i64 1048576] w fun e w' => (∃ r : Int, e = .returned (.int .i64 r) ∧ (0 ≤ r → ss.length ≤ 1048576 ∧ (∀ i, (ss.getD i ByteArray.empty).size ≤ 1048576) ∧ r ≤ 1048576 - ss.length)) ∧ w' = w := by
 obtain ⟨b, off, hc⟩ := strs_some hat
 have HC : Hid (ss = [] ∨ (a = some ⟨b, off, none⟩ ∧ b < w.heap.size ∧ ∀ i, i < ss.length → w.cell? ⟨b, off + i, none⟩ = some (.string (ss.getD i ByteArray.empty)))) := hc
 clear hc hat
 by_cases hbig : 1048576 < ss.length
 · go_enter Tryz.func19, Tryz.ntmps19
   go_wp2
   go_ret
   exact ⟨⟨-1, rfl, fun h => by omega⟩, rfl⟩
 · go_enter Tryz.func19, Tryz.ntmps19
   go_wp2_with fail
   go_loop [1, 5] (fun l i => ∃ (k : Nat) (r : Int), k ≤ ss.length ∧ i = .int .i64 k ∧ l = .int .i64 r ∧ 0 ≤ r ∧ r ≤ 1048576 - ss.length ∧ Hid (∀ i, i < k → (ss.getD i ByteArray.empty).size ≤ 1048576)) (fun _ i => ss.length - (intOf i).toNat)
   case atStart => exact ⟨0, _, Nat.zero_le _, rfl, rfl, by omega, by omega, fun i h => absurd h (Nat.not_lt_zero _)⟩
   case round =>
    obtain ⟨k, r, hk, rfl, rfl, hr0, hr1, hsm⟩ := hrel
    by_cases hlt : k < ss.length
    · rcases HC.out with hss | ⟨ha, hbw, hcell⟩
      · rw [hss] at hlt; exact absurd hlt (Nat.not_lt_zero _)
      subst ha
      have g0 := hcell k hlt
      have hxs := hs k
      generalize hx : ss.getD k ByteArray.empty = x at *
      have HX : Hid (ss.getD k ByteArray.empty = x) := hx
      clear hx hcell
      by_cases hneg : r < x.size
      · go_wp2
        go_ret
        exact ⟨⟨-1, rfl, fun h => by omega⟩, rfl⟩
      · have hsm' : Hid (∀ i, i < k + 1 → (ss.getD i ByteArray.empty).size ≤ 1048576) := by
         intro i h
         rcases Nat.lt_or_ge i k with h1 | h1
         · exact hsm.out i h1
         · obtain rfl : i = k := by omega
           rw [HX.out]; omega
        go_wp2
        go_round
        case rel => exact ⟨k + 1, _, by omega, by go_num, rfl, by omega, by omega, hsm'⟩
        case measure => simp [intOf]; omega
    · have hsm' : Hid (∀ i, (ss.getD i ByteArray.empty).size ≤ 1048576) := getD_small (fun i h => hsm.out i (by omega))
      go_wp2
      go_ret
      exact ⟨⟨r, rfl, fun _ => ⟨by omega, hsm'.out, hr1⟩⟩, rfl⟩
set_option maxHeartbeats 1000000 in
theorem c36 (a a' : Option Addr) (cap cap' : Nat) (ss : List ByteArray) (w : World) (hl : ss.length ≤ 1048576) (hat : StrsAt w a ss) (hat' : StrsAt w a' ss) :
 Calls Tryz.prog 36 #[.slice a ss.length cap, .slice a' ss.length cap'] w fun e w' => e = .returned (.bool true) ∧ Below w.heap.size w w' := by
 obtain ⟨b, off, hc⟩ := strs_some hat
 have HC : Hid (ss = [] ∨ (a = some ⟨b, off, none⟩ ∧ b < w.heap.size ∧ ∀ i, i < ss.length → w.cell? ⟨b, off + i, none⟩ = some (.string (ss.getD i ByteArray.empty)))) := hc
 clear hc hat
 obtain ⟨b', off', hc'⟩ := strs_some hat'
 have HC' : Hid (ss = [] ∨ (a' = some ⟨b', off', none⟩ ∧ b' < w.heap.size ∧ ∀ i, i < ss.length → w.cell? ⟨b', off' + i, none⟩ = some (.string (ss.getD i ByteArray.empty)))) := hc'
 clear hc' hat'
 go_enter Tryz.func36, Tryz.ntmps36
 go_wp2_with fail
 go_loopw [5] (fun i wr => ∃ (k nq : Nat), k ≤ ss.length ∧ i = .int .i64 k ∧ wr = w.drewN nq) (fun i _ => ss.length - (intOf i).toNat)
 case atStart => exact ⟨0, 0, Nat.zero_le _, rfl, rfl⟩
 case round =>
  obtain ⟨k, nq, hk, rfl, rfl⟩ := hrel
  by_cases hlt : k < ss.length
  · rcases HC.out with hss | ⟨ha, hbw, hcell⟩
    · rw [hss] at hlt; exact absurd hlt (Nat.not_lt_zero _)
    rcases HC'.out with hss | ⟨ha', hbw', hcell'⟩
    · rw [hss] at hlt; exact absurd hlt (Nat.not_lt_zero _)
    subst ha
    subst ha'
    have g0 := hcell k hlt
    have g1 := hcell' k hlt
    generalize ss.getD k ByteArray.empty = x at *
    clear hcell hcell'
    go_wp2_with fail
    go_quiet (fail)
    go_wp2
    go_roundw
    case rel => exact ⟨k + 1, _, by omega, by go_num, rfl⟩
    case measure => simp [intOf]; omega
  · go_wp2
    go_ret
    exact ⟨rfl, below_drewN _⟩
end Go.Proofs.YtkhlekmicpmpkaaGreatDoor
