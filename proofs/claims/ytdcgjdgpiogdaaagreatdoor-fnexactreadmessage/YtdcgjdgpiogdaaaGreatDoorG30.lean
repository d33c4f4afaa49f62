import Derived.Test.YtdcgjdgpiogdaaaGreatDoorG27
import Derived.Test.YtdcgjdgpiogdaaaGreatDoorG16
namespace Go.Proofs.YtdcgjdgpiogdaaaGreatDoor
open Go.RowKit
theorem rz2 {w u : World} (hb : Below (w.heap.size + 1) (w.alloc (.cells #[.int .i64 0, .string ⟨#[]⟩] 37)) u) :
    (u.cell? ⟨w.heap.size, 0, none⟩ = some (.int .i64 0) ∧ u.cell? ⟨w.heap.size, 1, none⟩ = some (.string ⟨#[]⟩)) ∧ u.frozen? ⟨w.heap.size, 0, none⟩ = false ∧ u.frozen? ⟨w.heap.size, 1, none⟩ = false := by
  have c : ∀ j, u.cell? ⟨w.heap.size, j, none⟩ = (w.alloc (.cells #[.int .i64 0, .string ⟨#[]⟩] 37)).cell? ⟨w.heap.size, j, none⟩ := fun j => hb.cell (by simp)
  have f : ∀ j, u.frozen? ⟨w.heap.size, j, none⟩ = (w.alloc (.cells #[.int .i64 0, .string ⟨#[]⟩] 37)).frozen? ⟨w.heap.size, j, none⟩ := fun j => hb.frozen (by simp)
  rw [c, c, f, f]
  simp
theorem set2_at (u : World) (B j : Nat) (v0 v1 x0 x1 : Value) (h0 : u.cell? ⟨B, j, none⟩ = some x0) (h1 : u.cell? ⟨B, j + 1, none⟩ = some x1) :
    ((u.setCell ⟨B, j, none⟩ v0).setCell ⟨B, j + 1, none⟩ v1).cell? ⟨B, j, none⟩ = some v0 ∧ ((u.setCell ⟨B, j, none⟩ v0).setCell ⟨B, j + 1, none⟩ v1).cell? ⟨B, j + 1, none⟩ = some v1 := by
  have a1 : (u.setCell ⟨B, j, none⟩ v0).cell? ⟨B, j + 1, none⟩ = some x1 := by rw [World.cell?_setCell_other _ _ _ _ (adr_ne (by omega))]; exact h1
  refine ⟨?_, World.cell?_setCell_same _ _ _ a1⟩
  rw [World.cell?_setCell_other _ _ _ _ (adr_ne (by omega))]; exact World.cell?_setCell_same _ _ _ h0
/-- A result read: what it is. -/
def Is128 (l : List UInt8) (e : Ending) : Prop := ∃ (c : Int) (t : ByteArray) (ok : Bool), e = .returned (.tuple #[.agg #[.int .i64 c, .string t], .bool ok]) ∧ RdRes l c t ok ∧ t.size ≤ 1048576
set_option maxHeartbeats 2000000 in
set_option maxRecDepth 100000 in
theorem c128 (l : List UInt8) (w : World) (hs : l.length ≤ 16000) (hmx : MaxAt w) :
    Calls Tryz.prog 128 #[.string (ofL l)] w fun e w' => Is128 l e ∧ Below w.heap.size w w' := by
  have hB0 : Below w.heap.size w (w.alloc (.cells #[.int .i64 0, .string ⟨#[]⟩] 37)) := (Below.refl _ _).alloc (Nat.le_refl _) _
  have hr := rest_small l
  go_enter Tryz.func128, Tryz.ntmps128
  go_wp2_with fail
  refine (c90w l _ (by omega) (max_below hmx hB0)).mono ?_
  rintro e w1 ⟨⟨y, rfl⟩, hb1⟩
  have hx1 : Below (w.heap.size + 1) (w.alloc (.cells #[.int .i64 0, .string ⟨#[]⟩] 37)) w1 := by simpa using hb1
  clear hb1
  go_wp2_with fail
  refine (c124m 7 (ofL (wordOf l)) _ (by rw [ofL_size]; omega) (by omega) (by omega)).mono ?_
  rintro e w2 ⟨rfl, rfl⟩
  go_wp2_with fail
  refine (c125' (restOf l) _ (by omega)).mono ?_
  rintro e w3 ⟨⟨t, ok, rfl, hu⟩, hb3⟩
  have hx3 := hx1.trans (hb3.mono (by have h := hx1.size; simp at h; omega))
  have hB3 : Below w.heap.size w w3 := hB0.trans (hx3.mono (by omega))
  rw [ofL_list]
  have hno : (numM 7 (wordOf l) = false ∨ ok = false) → Hid (Is128 l (.returned (.tuple #[.agg #[.int .i64 0, .string ⟨#[]⟩], .bool false]))) := fun h => ⟨0, ⟨#[]⟩, false, rfl, rdRes_no hu h _ _, by decide⟩
  have hyes : numM 7 (wordOf l) = true → ok = true → Hid (Is128 l (.returned (.tuple #[.agg #[.int .i64 (rnM 7 (wordOf l)), .string (ofL t)], .bool true]))) := by
    intro h1 h2
    subst h2
    refine ⟨_, _, true, rfl, rdRes_yes hu h1, ?_⟩
    have := quote_ge t
    rw [← hu.1 rfl] at this
    rw [ofL_size]; omega
  clear hu
  obtain ⟨⟨z0, z1⟩, y0, y1⟩ := rz2 hx3
  cases hn : numM 7 (wordOf l)
  · have HI := hno (.inl hn)
    clear hno hyes
    go_wp2
    have F := set2_at w3 w.heap.size 0 (.int .i64 0) (.string ⟨#[]⟩) _ _ z0 z1
    simp only [Nat.zero_add] at F
    refine bodyPost_ret (v := .tuple #[.agg #[.int .i64 0, .string ⟨#[]⟩], .bool false]) (by simp [results, Tryz.results128, go_sem, F.1, F.2]) rfl ⟨HI.out, (hB3.setCell (by simp) _).setCell (by simp) _⟩
  · cases ok
    · have HI := hno (.inr rfl)
      clear hno hyes
      go_wp2
      have F := set2_at w3 w.heap.size 0 (.int .i64 0) (.string ⟨#[]⟩) _ _ z0 z1
      simp only [Nat.zero_add] at F
      refine bodyPost_ret (v := .tuple #[.agg #[.int .i64 0, .string ⟨#[]⟩], .bool false]) (by simp [results, Tryz.results128, go_sem, F.1, F.2]) rfl ⟨HI.out, (hB3.setCell (by simp) _).setCell (by simp) _⟩
    · have HI := hyes hn rfl
      clear hno hyes
      go_wp2
      have F := set2_at w3 w.heap.size 0 (.int .i64 (rnM 7 (wordOf l))) (.string (ofL t)) _ _ z0 z1
      simp only [Nat.zero_add] at F
      refine bodyPost_ret (v := .tuple #[.agg #[.int .i64 (rnM 7 (wordOf l)), .string (ofL t)], .bool true]) (by simp [results, Tryz.results128, go_sem, F.1, F.2]) rfl ⟨HI.out, (hB3.setCell (by simp) _).setCell (by simp) _⟩
theorem has_eq (l : List UInt8) : ((ofL (wordOf l)).toList == [104, 97, 115]) = hasW l := by
  rw [ByteArray.toList_eq, ofL_list]
  unfold hasW
  by_cases h : wordOf l = [104, 97, 115]
  · rw [h]; rfl
  · rw [decide_eq_false h]; exact beq_eq_false_iff_ne.2 h
theorem ask_eq (l : List UInt8) : ((ofL (wordOf l)).toList == [97, 115, 107]) = decide (wordOf l = [97, 115, 107]) := by
  rw [ByteArray.toList_eq, ofL_list]
  by_cases h : wordOf l = [97, 115, 107]
  · rw [h]; rfl
  · rw [decide_eq_false h]; exact beq_eq_false_iff_ne.2 h
set_option maxHeartbeats 2000000 in
theorem c129 (l : List UInt8) (w : World) :
    Calls Tryz.prog 129 #[.string (ofL (wordOf l))] w fun e w' => e = .returned (.tuple #[.bool (hasW l), .bool (isW l)]) ∧ Below w.heap.size w w' := by
  have h1 := has_eq l
  have h2 := ask_eq l
  have hI : isW l = (hasW l || decide (wordOf l = [97, 115, 107])) := rfl
  generalize decide (wordOf l = [97, 115, 107]) = a at *
  generalize hasW l = h at *
  generalize isW l = i at *
  generalize ofL (wordOf l) = s at *
  subst hI
  go_enter Tryz.func129, Tryz.ntmps129
  cases h <;> cases a
  all_goals
    go_wp2
    try go_region
  all_goals try go_wp2
  all_goals go_ret2
  all_goals
    refine ⟨by first | rfl | simp [h1, h2], ?_⟩
    first | exact Below.refl _ _ | exact (Below.refl _ _).drew | exact (Below.refl _ _).drew.drew
end Go.Proofs.YtdcgjdgpiogdaaaGreatDoor
namespace Go.Proofs.YtdcgjdgpiogdaaaGreatDoor
open Go.RowKit
theorem info3 : (Tryz.prog.info? 3).map (fun i => (i.zero, i.size, i.bytes)) = some (some (.int .i64 0), 1, 8) := by kernel_rfl
/-- Strings lie from a place on. -/
def LinesIn (w : World) (g o : Nat) (ss : List (List UInt8)) : Prop := g < w.heap.size ∧ ∀ i, i < ss.length → w.cell? ⟨g, o + i, none⟩ = some (.string (ofL (ss.getD i [])))
theorem linesIn_below {w w' : World} {g o : Nat} {ss : List (List UInt8)} (h : LinesIn w g o ss) (hb : Below w.heap.size w w') : LinesIn w' g o ss :=
  ⟨Nat.lt_of_lt_of_le h.1 hb.size, fun i hi => by rw [hb.cell (by exact h.1)]; exact h.2 i hi⟩
def intL (ns : List Int) : List Value := ns.map fun n => .int .i64 n
theorem intL_snoc (ns : List Int) (n : Int) : intL (ns ++ [n]) = intL ns ++ [.int .i64 n] := by simp [intL]
/-- Numbers read. -/
def numsL (ss : List (List UInt8)) : List Int := ss.map (rnM 1000)
theorem nums_take (ss : List (List UInt8)) (k : Nat) (h : k < ss.length) : numsL (ss.take (k + 1)) = numsL (ss.take k) ++ [rnM 1000 (ss.getD k [])] := by
  unfold numsL
  rw [List.take_succ_eq_append_getElem h, List.map_append]
  have e : ss.getD k [] = ss[k] := by simp [h]
  rw [e]; rfl
def Is103 (w w' : World) (ss : List (List UInt8)) (e : Ending) : Prop := (e = .returned (.tuple #[.slice none 0 0, .bool false]) ∧ ss.all (numM 1000) = false) ∨ (ss.all (numM 1000) = true ∧ ∃ g cp, e = .returned (.tuple #[.slice (some ⟨g, 0, none⟩) ss.length cp, .bool true]) ∧ w.heap.size ≤ g ∧ g < w'.heap.size ∧ ∀ i, i < ss.length → w'.cell? ⟨g, i, none⟩ = some (.int .i64 (rnM 1000 (ss.getD i []))))
theorem nums_no {ss : List (List UInt8)} {k : Nat} (h : k < ss.length) (hn : numM 1000 (ss.getD k []) = false) : ss.all (numM 1000) = false := by
  rw [List.all_eq_false]
  refine ⟨ss[k], List.getElem_mem h, ?_⟩
  have e : ss.getD k [] = ss[k] := by simp [h]
  rw [← e, hn]; decide
theorem nums_all {ss : List (List UInt8)} {k : Nat} (h : k < ss.length) (ha : (ss.take k).all (numM 1000) = true) (hn : numM 1000 (ss.getD k []) = true) : (ss.take (k + 1)).all (numM 1000) = true := by
  rw [List.take_succ_eq_append_getElem h, List.all_append, ha]
  have e : ss.getD k [] = ss[k] := by simp [h]
  rw [← e]
  simp only [List.all_cons, List.all_nil, hn, Bool.and_self]
set_option maxHeartbeats 2000000 in
set_option maxRecDepth 100000 in
theorem c103 (bk o cp : Nat) (ss : List (List UInt8)) (w : World) (hc : LinesIn w bk o ss) (hsz : ∀ i, i < ss.length → (ss.getD i []).length ≤ 1048700) (hl : ss.length ≤ 8) (hl1 : 1 ≤ ss.length) :
    Calls Tryz.prog 103 #[.slice (some ⟨bk, o, none⟩) ss.length cp] w fun e w' => Is103 w w' ss e ∧ Below w.heap.size w w' := by
  obtain ⟨i0, hi, hz0, hz1, hz2⟩ := info_parts info3
  have HC : Hid (LinesIn w bk o ss) := hc
  have HZ : Hid (∀ i, i < ss.length → (ss.getD i []).length ≤ 1048700) := hsz
  have hbk := hc.1
  clear hc hsz
  go_enter Tryz.func103, Tryz.ntmps103
  go_wp2_with fail
  go_loopw [4, 11] (fun v i wr => ∃ (k : Nat), k ≤ ss.length ∧ i = .int .i64 k ∧ wr.ownsRow w.heap.size 3 1 v k (intL (numsL (ss.take k))) ∧ Hid ((ss.take k).all (numM 1000) = true) ∧ Below w.heap.size w wr) (fun _ i _ => ss.length - (intOf i).toNat)
  case atStart => exact ⟨0, Nat.zero_le _, rfl, ⟨rfl, .inl ⟨rfl, rfl⟩⟩, rfl, Below.refl _ _⟩
  case round =>
    obtain ⟨k, hk, rfl, hown, ha, hb⟩ := hrel
    by_cases hlt : k < ss.length
    · have hcell : wr.cell? ⟨bk, o + k, none⟩ = some (.string (ofL (ss.getD k []))) := (hb.cell (by exact hbk)).trans (HC.out.2 k hlt)
      have hr : (ofL (ss.getD k [])).size ≤ 1048700 := by rw [ofL_size]; exact HZ.out k hlt
      have HS : Hid (numsL (ss.take (k + 1)) = numsL (ss.take k) ++ [rnM 1000 (ss.getD k [])]) := nums_take ss k hlt
      have HNo : Hid (numM 1000 (ss.getD k []) = false → ss.all (numM 1000) = false) := nums_no hlt
      have HYes : Hid (numM 1000 (ss.getD k []) = true → (ss.take (k + 1)).all (numM 1000) = true) := nums_all hlt ha.out
      generalize ss.getD k [] = t at *
      generalize numsL (ss.take k) = ds at *
      go_wp2_with fail
      refine (c124m 1000 (ofL t) _ hr (by omega) (by omega)).mono ?_
      rintro e w1 ⟨rfl, rfl⟩
      rw [ofL_list]
      have hz0' : w.heap.size ≤ w1.heap.size := hb.size
      cases hn : numM 1000 t
      · have HR := HNo.out hn
        clear HNo HYes
        go_wp2
        go_ret2
        exact ⟨.inl ⟨rfl, HR⟩, hb⟩
      · have HA := HYes.out hn
        clear HNo HYes
        go_wp2_with (at_builtin; refine wpList_append_own _ rfl _ _ 134 rfl w.heap.size 3 i0 (.int .i64 0) 1 8 Tryz.underlying134 hi hz0 hz1 hz2 rfl (by decide) _ _ _ rfl (hown.alloc _) ⟨w1.heap.size, 0, none⟩ 1 1 [_] rfl rfl (cell_one_new _ _ _) (by intro u hu; simp at hu; subst hu; rfl) (by unfold maxLen; omega) (by omega) (by simp; omega) ?_; intro v' w2 hown' hgrow _)
        go_roundw
        case rel =>
          have hB2 : Below w.heap.size w w2 := (hb.alloc (by omega) _).grown hgrow (by simp; omega) (fun j hj => (hown.lt j hj).1)
          refine ⟨k + 1, by omega, by go_num, ?_, HA, hB2⟩
          rw [HS.out, intL_snoc]
          exact hown'
        case measure => simp [intOf]; omega
    · have HK : Hid (ss.take k = ss) := List.take_of_length_le (by omega)
      obtain rfl : k = ss.length := by omega
      rw [HK.out] at hown ha
      obtain ⟨g, cp', hvv⟩ := own_formF hown (by omega)
      subst hvv
      go_wp2
      go_ret2
      refine ⟨.inr ⟨ha.out, g, cp', rfl, (hown.lt g rfl).1, (hown.lt g rfl).2, fun i hi' => ?_⟩, hb⟩
      rw [hown.cellAt i (by omega)]
      simp [intL, numsL, hi']
end Go.Proofs.YtdcgjdgpiogdaaaGreatDoor
