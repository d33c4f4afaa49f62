import Derived.Test.YtboojefodbjbcaaGreatDoorProg
import Derived.Deep.RegionHeld3
import Derived.WalkKit
import Derived.WalkSpells
import Derived.WalkLawsBesides
import Derived.Laws.BytesArg
import Derived.Deep.RegionWith
import Derived.Deep.QuietTactic
import Derived.BigQuiet
namespace Go.Proofs.YtboojefodbjbcaaGreatDoor
theorem qA {α : Type} {l : List α} {i : Nat} {a : α} : l.toArray.setIfInBounds i a = (l.set i a).toArray := List.setIfInBounds_toArray ..
theorem qB {α : Type} {x : α} {l : List α} {a : α} : (x :: l).set 0 a = a :: l := rfl
theorem qC {α : Type} {x : α} {l : List α} {i : Nat} {a : α} : (x :: l).set (i + 1) a = x :: l.set i a := rfl
theorem qq : (∀ (a : Act) (d : Nat) (v : Value), a.put (some d) v = { a with tmps := a.tmps.setIfInBounds d v }) ∧ (∀ (a : Act) (v : Value), a.put none v = a) ∧ (∀ {α : Type} (l : List α) (i : Nat) (a : α), l.toArray.setIfInBounds i a = (l.set i a).toArray) ∧ (∀ {α : Type} (x : α) (l : List α) (a : α), (x :: l).set 0 a = a :: l) ∧ ∀ {α : Type} (x : α) (l : List α) (i : Nat) (a : α), (x :: l).set (i + 1) a = x :: l.set i a := ⟨fun _ _ _ => rfl, fun _ _ => rfl, fun _ _ _ => List.setIfInBounds_toArray .., fun _ _ _ => rfl, fun _ _ _ _ => rfl⟩
theorem rd {P : Program} {ops : Array Oper} {Q : Exit → Act → World → Prop} {md : Region.Mode} {S : World → Prop} {fuel : Nat} {listed : Array Bool} {a : Act} {w : World} {i : Nat} {o : Oper} (ho : ops[i]? = some o) (hr : Region.ready md ops listed = [i]) (h : ∀ K' : Act → World → Prop, Shut (∀ a w, S w → (S w → wpAnyH P md ops Q S fuel (listed.setIfInBounds i true) a w) → K' a w) → if Region.wanted o (yielded ops a.tmps) = true then Oper.wp P o a w K' Q else K' (a.put o.dst undef) w) : wpAnyH P md ops Q S (fuel + 1) listed a w := wpAnyH_ready hr (by simp) (AllReadyH.cons ho h AllReadyH.nil)
theorem tk {P : Program} {ops : Array Oper} {Q : Exit → Act → World → Prop} {md : Region.Mode} {S : World → Prop} {i : Nat} {oi : Oper} {v : Value} {fuel : Nat} {listed : Array Bool} {a : Act} {w : World} (hi : ops[i]? = some oi) (hb : (Region.noSelect ops && Region.free md ops listed i && (Region.ready md ops listed).contains i) = true) (hw : Region.wanted oi (yielded ops a.tmps) = true) (hv : ∀ u, S u → (execOp a.eval oi).run P u = .ok (.value v) u) (hS : S w) (h : wpAnyH P md ops Q S fuel (listed.setIfInBounds i true) (a.put oi.dst v) w) (hQ : ∀ c a w, Q (.panic c) (a.put oi.dst v) w → Q (.panic c) a w := by exact fun _ _ _ h => h) : wpAnyH P md ops Q S (fuel + 1) listed a w := by
  simp only [Bool.and_eq_true] at hb
  exact wpAnyH_take hi hb.1.1 hb.1.2 hb.2 hQ (.inl ⟨hw, hv⟩) hS h
theorem tu {P : Program} {ops : Array Oper} {Q : Exit → Act → World → Prop} {md : Region.Mode} {S : World → Prop} {i : Nat} {oi : Oper} {fuel : Nat} {listed : Array Bool} {a : Act} {w : World} (hi : ops[i]? = some oi) (hb : (Region.noSelect ops && Region.free md ops listed i && (Region.ready md ops listed).contains i) = true) (hw : Region.wanted oi (yielded ops a.tmps) = false) (hS : S w) (h : wpAnyH P md ops Q S fuel (listed.setIfInBounds i true) (a.put oi.dst undef) w) (hQ : ∀ c a w, Q (.panic c) (a.put oi.dst undef) w → Q (.panic c) a w := by exact fun _ _ _ h => h) : wpAnyH P md ops Q S (fuel + 1) listed a w := by
  simp only [Bool.and_eq_true] at hb
  exact wpAnyH_take hi hb.1.1 hb.1.2 hb.2 hQ (.inr ⟨hw, rfl⟩) hS h
end Go.Proofs.YtboojefodbjbcaaGreatDoor
namespace Go.Proofs.YtboojefodbjbcaaGreatDoor.G.T
open Go.RowKit
def isGraph (c : UInt8) : Bool := decide (33 ≤ (c.toNat : Int) ∧ (c.toNat : Int) ≤ 126)
def nameOk (l : List UInt8) : Bool := decide (1 ≤ l.length ∧ l.length ≤ 20) && l.all isGraph
theorem graph_iff (c : UInt8) : isGraph c = true ↔ 33 ≤ (c.toNat : Int) ∧ (c.toNat : Int) ≤ 126 := by simp [isGraph]
theorem take_snoc (s : ByteArray) (k : Nat) (h : k < s.size) : s.data.toList.take (k + 1) = s.data.toList.take k ++ [s[k]] := by
 rw [List.take_succ_eq_append_getElem (by simpa using h)]; rfl
theorem ret_bool {a b : Bool} (h : a = b) : Ending.returned (.bool a) = .returned (.bool b) := by rw [h]
set_option maxHeartbeats 400000 in
theorem c67 (n a b : Int) (w : World) :
 Calls Tryz.prog 67 #[.int .i64 n, .int .i64 a, .int .i64 b] w fun e w' => e = .returned (.bool (decide (a ≤ n ∧ n ≤ b))) ∧ w' = w := by
 by_cases h1 : a ≤ n <;> by_cases h2 : n ≤ b
 all_goals
  go_enter Tryz.func67, Tryz.ntmps67
  go_wp2
  all_goals go_ret
  all_goals exact ⟨by simp [*], rfl⟩
theorem all_take_snoc (p : UInt8 → Bool) (s : ByteArray) (k : Nat) (h : k < s.size) (ha : (s.data.toList.take k).all p = true) (hp : p s[k] = true) : (s.data.toList.take (k + 1)).all p = true := by
 rw [take_snoc s k h, List.all_append, ha]; simpa using hp
theorem all_false_at (p : UInt8 → Bool) (s : ByteArray) (k : Nat) (h : k < s.size) (hp : p s[k] = false) : s.data.toList.all p = false := by
 rw [List.all_eq_false]
 exact ⟨s[k], by simp [ByteArray.getElem_eq_getElem_data], by simp [hp]⟩
theorem all_take_size (p : UInt8 → Bool) (s : ByteArray) (k : Nat) (h : s.size ≤ k) (ha : (s.data.toList.take k).all p = true) : s.data.toList.all p = true := by
 rwa [List.take_of_length_le (by simpa using h)] at ha
theorem name_short (s : ByteArray) (h : ¬ (1 ≤ s.size ∧ s.size ≤ 20)) : nameOk s.data.toList = false := by
 unfold nameOk
 have : (decide (1 ≤ s.data.toList.length ∧ s.data.toList.length ≤ 20)) = false := by
  simp only [decide_eq_false_iff_not]; simpa using h
 rw [this]; rfl
theorem name_long (s : ByteArray) (h : 1 ≤ s.size ∧ s.size ≤ 20) : nameOk s.data.toList = s.data.toList.all isGraph := by
 unfold nameOk
 have : (decide (1 ≤ s.data.toList.length ∧ s.data.toList.length ≤ 20)) = true := by
  simp only [decide_eq_true_eq]; simpa using h
 rw [this]; rfl
set_option maxHeartbeats 400000 in
theorem c80 (s : ByteArray) (w : World) (hs : s.size ≤ 1048700) :
 Calls Tryz.prog 80 #[.string s] w fun e w' => e = .returned (.bool (nameOk s.data.toList)) ∧ w' = w := by
 by_cases h : 1 ≤ s.size ∧ s.size ≤ 20
 · have hN : Hid (nameOk s.data.toList = s.data.toList.all isGraph) := name_long s h
   obtain ⟨h1, h2⟩ := h
   go_enter Tryz.func80, Tryz.ntmps80
   go_wp2
   go_loop [14] (fun i => ∃ k : Nat, k ≤ s.size ∧ i = .int .i64 k ∧ Hid ((s.data.toList.take k).all isGraph = true)) (fun i => s.size - (intOf i).toNat)
   case atStart => exact ⟨0, Nat.zero_le _, rfl, rfl⟩
   case round =>
    obtain ⟨k, hk, rfl, ha⟩ := hrel
    by_cases hlt : k < s.size
    · by_cases hg : isGraph s[k] = true
      · have hg' := (graph_iff _).1 hg
        have hn := Hid.out ha
        have ha' : Hid ((s.data.toList.take (k + 1)).all isGraph = true) := all_take_snoc _ s k hlt ha.out hg
        clear hg hn
        go_wp2
        go_round
        case rel => exact ⟨k + 1, by omega, by go_num, ha'⟩
        case measure => simp [intOf]; omega
      · have hf : Hid (s.data.toList.all isGraph = false) := all_false_at _ s k hlt (by simpa using hg)
        have hg' : (s[k].toNat : Int) < 33 ∨ 126 < (s[k].toNat : Int) := by
         rcases Int.lt_or_le (s[k].toNat : Int) 33 with h | h
         · exact .inl h
         · rcases Int.lt_or_le 126 (s[k].toNat : Int) with h' | h'
           · exact .inr h'
           · exact absurd ((graph_iff _).2 ⟨h, h'⟩) hg
        clear hg
        rcases hg' with hg | hg
        all_goals
         go_wp2
         all_goals go_ret
         all_goals exact ⟨ret_bool (by rw [hN.out, hf.out]), rfl⟩
    · go_wp2
      go_ret
      exact ⟨ret_bool (by rw [hN.out, all_take_size _ s k (by omega) ha.out]), rfl⟩
 · have hN : Hid (nameOk s.data.toList = false) := name_short s h
   by_cases h1 : 1 ≤ s.size
   all_goals
    go_enter Tryz.func80, Tryz.ntmps80
    go_wp2
    all_goals go_ret
    all_goals exact ⟨ret_bool (by rw [hN.out]), rfl⟩
set_option maxHeartbeats 400000 in
theorem c31 (s : ByteArray) (w : World) (hs : s.size ≤ 1048700) :
 Calls Tryz.prog 31 #[.string s] w fun e w' => e = .returned (.bool (nameOk s.data.toList)) ∧ w' = w := by
 by_cases h : 1 ≤ s.size ∧ s.size ≤ 20
 · have hN : Hid (nameOk s.data.toList = s.data.toList.all isGraph) := name_long s h
   have hd : decide ((1 : Int) ≤ (s.size : Int) ∧ (s.size : Int) ≤ 20) = true := by simp; omega
   go_enter Tryz.func31, Tryz.ntmps31
   go_wp2_with fail
   refine (c67 _ _ _ _).mono ?_
   rintro e w' ⟨rfl, rfl⟩
   rw [hd]
   go_wp2
   go_loop [3] (fun i => ∃ k : Nat, k ≤ s.size ∧ i = .int .i64 k ∧ Hid ((s.data.toList.take k).all isGraph = true)) (fun i => s.size - (intOf i).toNat)
   case atStart => exact ⟨0, Nat.zero_le _, rfl, rfl⟩
   case round =>
    obtain ⟨k, hk, rfl, ha⟩ := hrel
    by_cases hlt : k < s.size
    · by_cases hg : isGraph s[k] = true
      · have hg' := (graph_iff _).1 hg
        have ha' : Hid ((s.data.toList.take (k + 1)).all isGraph = true) := all_take_snoc _ s k hlt ha.out hg
        clear hg
        go_wp2
        go_round
        case rel => exact ⟨k + 1, by omega, by go_num, ha'⟩
        case measure => simp [intOf]; omega
      · have hf : Hid (s.data.toList.all isGraph = false) := all_false_at _ s k hlt (by simpa using hg)
        have hg' : (s[k].toNat : Int) < 33 ∨ 126 < (s[k].toNat : Int) := by
         rcases Int.lt_or_le (s[k].toNat : Int) 33 with h | h
         · exact .inl h
         · rcases Int.lt_or_le 126 (s[k].toNat : Int) with h' | h'
           · exact .inr h'
           · exact absurd ((graph_iff _).2 ⟨h, h'⟩) hg
        clear hg
        rcases hg' with hg | hg
        all_goals
         go_wp2
         all_goals go_ret
         all_goals exact ⟨ret_bool (by rw [hN.out, hf.out]), rfl⟩
    · go_wp2
      go_ret
      exact ⟨ret_bool (by rw [hN.out, all_take_size _ s k (by omega) ha.out]), rfl⟩
 · have hN : Hid (nameOk s.data.toList = false) := name_short s h
   have hd : decide ((1 : Int) ≤ (s.size : Int) ∧ (s.size : Int) ≤ 20) = false := by simp only [decide_eq_false_iff_not]; omega
   go_enter Tryz.func31, Tryz.ntmps31
   go_wp2_with fail
   refine (c67 _ _ _ _).mono ?_
   rintro e w' ⟨rfl, rfl⟩
   rw [hd]
   go_wp2
   go_ret
   exact ⟨ret_bool (by rw [hN.out]), rfl⟩
end Go.Proofs.YtboojefodbjbcaaGreatDoor.G.T
namespace Go.Proofs.YtboojefodbjbcaaGreatDoor.G.T
open Go.RowKit
theorem adr_ne {B i j : Nat} (h : i ≠ j) : (⟨B, i, none⟩ : Addr) ≠ ⟨B, j, none⟩ := by intro e; injection e with _ e; exact h e
structure F2 where
 nm : ByteArray
 tx : ByteArray
def f2z : F2 := ⟨⟨#[]⟩, ⟨#[]⟩⟩
def FilesAt (w : World) (a : Option Addr) (rs : List F2) : Prop :=
 rs = [] ∨ ∃ b off, a = some ⟨b, off, none⟩ ∧ b < w.heap.size ∧ ∀ i, i < rs.length → w.cell? ⟨b, off + i * 2, none⟩ = some (.string (rs.getD i f2z).nm) ∧ w.cell? ⟨b, off + i * 2 + 1, none⟩ = some (.string (rs.getD i f2z).tx)
theorem files_some {w : World} {a : Option Addr} {rs : List F2} (h : FilesAt w a rs) : ∃ b off, (rs = [] ∨ (a = some ⟨b, off, none⟩ ∧ b < w.heap.size ∧ ∀ i, i < rs.length → w.cell? ⟨b, off + i * 2, none⟩ = some (.string (rs.getD i f2z).nm) ∧ w.cell? ⟨b, off + i * 2 + 1, none⟩ = some (.string (rs.getD i f2z).tx))) := by
 rcases h with h | ⟨b, off, h⟩
 · exact ⟨0, 0, .inl h⟩
 · exact ⟨b, off, .inr h⟩
theorem files_below {w w' : World} {a : Option Addr} {rs : List F2} (h : FilesAt w a rs) (hb : Below w.heap.size w w') : FilesAt w' a rs := by
 rcases h with h | ⟨b, off, h1, h2, h3⟩
 · exact .inl h
 · exact .inr ⟨b, off, h1, Nat.lt_of_lt_of_le h2 hb.size, fun i hi => by rw [hb.cell (by exact h2), hb.cell (by exact h2)]; exact h3 i hi⟩
def F2.le (x : F2) (B : Nat) : Prop := x.nm.size ≤ B ∧ x.tx.size ≤ B
theorem getD_small2 {rs : List F2} {B : Nat} (h : ∀ i, i < rs.length → (rs.getD i f2z).le B) (i : Nat) : (rs.getD i f2z).le B := by
 rcases Nat.lt_or_ge i rs.length with h' | h'
 · exact h i h'
 · have e : rs.getD i f2z = f2z := by simp [List.getD, List.getElem?_eq_none h']
   rw [e]; exact ⟨Nat.zero_le _, Nat.zero_le _⟩
set_option maxHeartbeats 400000 in
theorem c62 (x : F2) (l : Int) (w : World) (hs : x.le 9223372036854775807) (h0 : 0 ≤ l) (h1 : l ≤ 1048576) :
 Calls Tryz.prog 62 #[.agg #[.string x.nm, .string x.tx], .int .i64 l] w fun e w' => (∃ r : Int, e = .returned (.int .i64 r) ∧ (0 ≤ r → x.le 1048576 ∧ r ≤ 1048576)) ∧ Below w.heap.size w w' := by
 obtain ⟨hs1, hs2⟩ := hs
 by_cases h : l < x.nm.size
 · go_enter Tryz.func62, Tryz.ntmps62
   go_wp2
   go_ret
   exact ⟨⟨-1, rfl, fun h => by omega⟩, (Below.refl _ _).alloc (Nat.le_refl _) _⟩
 · by_cases h' : l - x.nm.size < x.tx.size
   · go_enter Tryz.func62, Tryz.ntmps62
     go_wp2
     go_ret
     exact ⟨⟨-1, rfl, fun h => by omega⟩, (Below.refl _ _).alloc (Nat.le_refl _) _⟩
   · go_enter Tryz.func62, Tryz.ntmps62
     go_wp2
     go_ret
     exact ⟨⟨_, rfl, fun h => ⟨⟨by omega, by omega⟩, by omega⟩⟩, (Below.refl _ _).alloc (Nat.le_refl _) _⟩
set_option maxHeartbeats 1000000 in
theorem c26 (a : Option Addr) (cap : Nat) (rs : List F2) (l : Int) (w : World) (hs : ∀ i, (rs.getD i f2z).le 9223372036854775807) (hl : rs.length ≤ 9223372036854775807) (hat : FilesAt w a rs) (h0 : 0 ≤ l) (h1 : l ≤ 1048576) :
 Calls Tryz.prog 26 #[.slice a rs.length cap, .int .i64 l] w fun e w' => (∃ r : Int, e = .returned (.int .i64 r) ∧ (0 ≤ r → rs.length ≤ 1048576 ∧ (∀ i, (rs.getD i f2z).le 1048576) ∧ r ≤ 1048576)) ∧ Below w.heap.size w w' := by
 obtain ⟨b, off, hc⟩ := files_some hat
 have HC : Hid (rs = [] ∨ (a = some ⟨b, off, none⟩ ∧ b < w.heap.size ∧ ∀ i, i < rs.length → w.cell? ⟨b, off + i * 2, none⟩ = some (.string (rs.getD i f2z).nm) ∧ w.cell? ⟨b, off + i * 2 + 1, none⟩ = some (.string (rs.getD i f2z).tx))) := hc
 clear hc hat
 by_cases hbig : l < rs.length
 · go_enter Tryz.func26, Tryz.ntmps26
   go_wp2
   go_ret
   exact ⟨⟨-1, rfl, fun h => by omega⟩, Below.refl _ _⟩
 · go_enter Tryz.func26, Tryz.ntmps26
   go_wp2_with fail
   go_loopw [1, 5] (fun l i wr => ∃ (k : Nat) (r : Int), k ≤ rs.length ∧ i = .int .i64 k ∧ l = .int .i64 r ∧ 0 ≤ r ∧ r ≤ 1048576 ∧ Hid (∀ i, i < k → (rs.getD i f2z).le 1048576) ∧ Below w.heap.size w wr) (fun _ i _ => rs.length - (intOf i).toNat)
   case atStart => exact ⟨0, _, Nat.zero_le _, rfl, rfl, by omega, by omega, fun i h => absurd h (Nat.not_lt_zero _), Below.refl _ _⟩
   case round =>
    obtain ⟨k, r, hk, rfl, rfl, hr0, hr1, hsm, hb⟩ := hrel
    by_cases hlt : k < rs.length
    · rcases HC.out with hss | ⟨ha, hbw, hcell⟩
      · rw [hss] at hlt; exact absurd hlt (Nat.not_lt_zero _)
      subst ha
      have g0 := (hb.cell (p := ⟨b, off + k * 2, none⟩) hbw).trans (hcell k hlt).1
      have g1 := (hb.cell (p := ⟨b, off + k * 2 + 1, none⟩) hbw).trans (hcell k hlt).2
      have hxs := hs k
      generalize hx : rs.getD k f2z = x at *
      have HX : Hid (rs.getD k f2z = x) := hx
      clear hx hcell
      go_wp2_with fail
      refine (c62 x r wr hxs hr0 hr1).mono ?_
      rintro e w1 ⟨⟨r1, rfl, hr⟩, hb1⟩
      have hB1 : Below w.heap.size w w1 := hb.trans (hb1.mono hb.size)
      by_cases hneg : r1 < 0
      · clear hr
        go_wp2
        go_ret
        exact ⟨⟨-1, rfl, fun h => by omega⟩, hB1⟩
      · have hr' := hr (by omega)
        have hsm' : Hid (∀ i, i < k + 1 → (rs.getD i f2z).le 1048576) := by
         intro i h
         rcases Nat.lt_or_ge i k with h1 | h1
         · exact hsm.out i h1
         · obtain rfl : i = k := by omega
           rw [HX.out]; exact hr'.1
        clear hr
        go_wp2
        go_roundw
        case rel => exact ⟨k + 1, _, by omega, by go_num, rfl, by omega, hr'.2, hsm', hB1⟩
        case measure => simp [intOf]; omega
    · have hsm' : Hid (∀ i, (rs.getD i f2z).le 1048576) := getD_small2 (fun i h => hsm.out i (by omega))
      go_wp2
      go_ret
      exact ⟨⟨r, rfl, fun _ => ⟨by omega, hsm'.out, hr1⟩⟩, hb⟩
set_option maxHeartbeats 400000 in
theorem c77b (x : F2) (w : World) :
 Calls Tryz.prog 77 #[.agg #[.string x.nm, .string x.tx]] w fun e w' => e = .returned (.agg #[.string x.nm, .string x.tx]) ∧ Below w.heap.size w w' := by
 go_enter Tryz.func77, Tryz.ntmps77
 go_wp2
 refine bodyPost_ret (v := .agg #[.string x.nm, .string x.tx]) (by simp [results, Tryz.results77, go_sem]) rfl ⟨rfl, ?_⟩
 exact (((Below.refl _ _).alloc (Nat.le_refl _) _).alloc (by simp) _).alloc (by simp; omega) _
theorem set2_other (u : World) (B j m : Nat) (v0 v1 : Value) (h0 : m ≠ j) (h1 : m ≠ j + 1) : ((u.setCell ⟨B, j, none⟩ v0).setCell ⟨B, j + 1, none⟩ v1).cell? ⟨B, m, none⟩ = u.cell? ⟨B, m, none⟩ := by
 rw [World.cell?_setCell_other _ _ _ _ (adr_ne (Ne.symm h1)), World.cell?_setCell_other _ _ _ _ (adr_ne (Ne.symm h0))]
theorem set2_at (u : World) (B j : Nat) (v0 v1 x0 x1 : Value) (h0 : u.cell? ⟨B, j, none⟩ = some x0) (h1 : u.cell? ⟨B, j + 1, none⟩ = some x1) :
 ((u.setCell ⟨B, j, none⟩ v0).setCell ⟨B, j + 1, none⟩ v1).cell? ⟨B, j, none⟩ = some v0 ∧ ((u.setCell ⟨B, j, none⟩ v0).setCell ⟨B, j + 1, none⟩ v1).cell? ⟨B, j + 1, none⟩ = some v1 := by
 have a1 : (u.setCell ⟨B, j, none⟩ v0).cell? ⟨B, j + 1, none⟩ = some x1 := by rw [World.cell?_setCell_other _ _ _ _ (adr_ne (by omega))]; exact h1
 refine ⟨?_, World.cell?_setCell_same _ _ _ a1⟩
 rw [World.cell?_setCell_other _ _ _ _ (adr_ne (by omega))]; exact World.cell?_setCell_same _ _ _ h0
theorem info129 : (Tryz.prog.info? 129).map (fun i => (i.zero, i.size, i.bytes)) = some (some (.agg #[.string ⟨#[]⟩, .string ⟨#[]⟩]), 2, 32) := by kernel_rfl
theorem made2 (n j : Nat) (h : j < n * 2) : (madeCells #[Value.string ⟨#[]⟩, .string ⟨#[]⟩] (n * 2))[j]? = (#[Value.string ⟨#[]⟩, .string ⟨#[]⟩] : Array Value)[j % 2]? := by
 have h3 : j % 2 < 2 := Nat.mod_lt _ (by omega)
 rw [Array.getElem?_eq_getElem (by simpa [size_madeCells] using h), Array.getElem?_eq_getElem (by simpa using h3)]
 simp [madeCells, h3]
set_option maxHeartbeats 400000 in
theorem c99 (x : F2) (w : World) :
 Calls Tryz.prog 99 #[.agg #[.string x.nm, .string x.tx], .agg #[.string x.nm, .string x.tx]] w fun e w' => e = .returned (.bool true) ∧ Below w.heap.size w w' := by
 go_enter Tryz.func99, Tryz.ntmps99
 go_wp2
 go_ret
 exact ⟨rfl, ((Below.refl _ _).alloc (Nat.le_refl _) _).alloc (by simp) _⟩
set_option maxHeartbeats 1000000 in
theorem c55 (a a' : Option Addr) (cap cap' : Nat) (rs : List F2) (w : World) (hl : rs.length ≤ 1048576) (hat : FilesAt w a rs) (hat' : FilesAt w a' rs) :
 Calls Tryz.prog 55 #[.slice a rs.length cap, .slice a' rs.length cap'] w fun e w' => e = .returned (.bool true) ∧ Below w.heap.size w w' := by
 obtain ⟨b, off, hc⟩ := files_some hat
 have HC : Hid (rs = [] ∨ (a = some ⟨b, off, none⟩ ∧ b < w.heap.size ∧ ∀ i, i < rs.length → w.cell? ⟨b, off + i * 2, none⟩ = some (.string (rs.getD i f2z).nm) ∧ w.cell? ⟨b, off + i * 2 + 1, none⟩ = some (.string (rs.getD i f2z).tx))) := hc
 clear hc hat
 obtain ⟨b', off', hc'⟩ := files_some hat'
 have HC' : Hid (rs = [] ∨ (a' = some ⟨b', off', none⟩ ∧ b' < w.heap.size ∧ ∀ i, i < rs.length → w.cell? ⟨b', off' + i * 2, none⟩ = some (.string (rs.getD i f2z).nm) ∧ w.cell? ⟨b', off' + i * 2 + 1, none⟩ = some (.string (rs.getD i f2z).tx))) := hc'
 clear hc' hat'
 go_enter Tryz.func55, Tryz.ntmps55
 go_wp2_with fail
 go_loopw [5] (fun i wr => ∃ (k : Nat), k ≤ rs.length ∧ i = .int .i64 k ∧ Below w.heap.size w wr) (fun i _ => rs.length - (intOf i).toNat)
 case atStart => exact ⟨0, Nat.zero_le _, rfl, Below.refl _ _⟩
 case round =>
  obtain ⟨k, hk, rfl, hb⟩ := hrel
  by_cases hlt : k < rs.length
  · rcases HC.out with hss | ⟨ha, hbw, hcell⟩
    · rw [hss] at hlt; exact absurd hlt (Nat.not_lt_zero _)
    rcases HC'.out with hss | ⟨ha', hbw', hcell'⟩
    · rw [hss] at hlt; exact absurd hlt (Nat.not_lt_zero _)
    subst ha
    subst ha'
    have g0 := (hb.cell (p := ⟨b, off + k * 2, none⟩) hbw).trans (hcell k hlt).1
    have g1 := (hb.cell (p := ⟨b, off + k * 2 + 1, none⟩) hbw).trans (hcell k hlt).2
    have g0' := (hb.cell (p := ⟨b', off' + k * 2, none⟩) hbw').trans (hcell' k hlt).1
    have g1' := (hb.cell (p := ⟨b', off' + k * 2 + 1, none⟩) hbw').trans (hcell' k hlt).2
    generalize rs.getD k f2z = x at *
    clear hcell hcell'
    go_wp2_with fail
    go_region_with (go_at_call 99; refine (c99 x _).mono ?_; rintro e w1 ⟨rfl, hb1⟩)
    all_goals go_wp2
    all_goals go_roundw
    all_goals first
     | exact ⟨k + 1, by omega, by go_num, (hb.drew).trans (hb1.mono hb.size)⟩
     | (simp [intOf]; omega)
  · go_wp2
    go_ret
    exact ⟨rfl, hb⟩
end Go.Proofs.YtboojefodbjbcaaGreatDoor.G.T
