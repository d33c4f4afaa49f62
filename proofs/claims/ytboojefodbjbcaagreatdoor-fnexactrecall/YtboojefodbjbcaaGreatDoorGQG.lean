import Derived.Test.YtboojefodbjbcaaGreatDoorZR07
import Derived.Test.YtboojefodbjbcaaGreatDoorZR08
import Derived.Test.YtboojefodbjbcaaGreatDoorGPE
namespace Go.Proofs.YtboojefodbjbcaaGreatDoor.G
open Go.RowKit
def MaxAt (w : World) : Prop := 5 < w.heap.size ∧ ∃ m, w.cell? ⟨5, 0, none⟩ = some (.int .i64 m)
theorem max_below {w w' : World} (h : MaxAt w) (hb : Below w.heap.size w w') : MaxAt w' := by
 obtain ⟨h1, m, hm⟩ := h
 exact ⟨Nat.lt_of_lt_of_le h1 hb.size, m, by rw [hb.cell (by exact h1)]; exact hm⟩
theorem below_drewN {w : World} (n : Nat) : Below w.heap.size w (w.drewN n) := ⟨rfl, rfl, rfl, Nat.le_refl _, fun _ _ => rfl⟩
theorem c115w (l : List UInt8) (w : World) (hs : l.length ≤ 1048700) (hm : MaxAt w) :
 Calls Tryz.prog 115 #[.string (ofL l), .string ⟨#[32]⟩] w fun e w' => (∃ y, e = .returned (.tuple #[.string (ofL (wordOf l)), .string (ofL (restOf l)), .bool y])) ∧ Below w.heap.size w w' := by
 obtain ⟨_, m, hm⟩ := hm
 refine (Tryz.strings_Cut (ofL l) ⟨#[32]⟩ m w (by rw [ofL_size]; omega) hm).mono ?_
 rintro e w' ⟨rfl, n, rfl⟩
 refine ⟨⟨(Lib.cut l [32]).2.2, ?_⟩, below_drewN n⟩
 rw [← cut_32, ← cut_32b]
 rfl
theorem c115n (l : List UInt8) (w : World) (hs : l.length ≤ 1048700) (hm : MaxAt w) :
 Calls Tryz.prog 115 #[.string (ofL l), .string ⟨#[10]⟩] w fun e w' => e = .returned (.tuple #[.string (ofL (Lib.cut l [10]).1), .string (ofL (Lib.cut l [10]).2.1), .bool (Lib.cut l [10]).2.2]) ∧ Below w.heap.size w w' := by
 obtain ⟨_, m, hm⟩ := hm
 refine (Tryz.strings_Cut (ofL l) ⟨#[10]⟩ m w (by rw [ofL_size]; omega) hm).mono ?_
 rintro e w' ⟨rfl, n, rfl⟩
 exact ⟨rfl, below_drewN n⟩
theorem toL_inj {ss : List ByteArray} {ls : List (List UInt8)} (h : ss.map (·.data.toList) = ls) : ss = ls.map ofL := by
 rw [← h, List.map_map]
 conv => lhs; rw [← List.map_id ss]
 refine List.map_congr_left fun s _ => ?_
 exact ext_ofL rfl
theorem c141w (l : List UInt8) (w : World) (hs : l.length ≤ 1048700) (hm : MaxAt w) :
 Calls Tryz.prog 141 #[.string (ofL l), .string ⟨#[32]⟩, .int .i64 3] w fun e w' => (∃ cap, e = .returned (.slice (some ⟨w.heap.size, 0, none⟩) (parts1 l 2).length cap) ∧ LinesAt w' w.heap.size (parts1 l 2)) ∧ Below w.heap.size w w' := by
 obtain ⟨_, m, hm⟩ := hm
 refine (Tryz.strings_SplitN (ofL l) ⟨#[32]⟩ 3 m w (by rw [ofL_size]; omega) hm (by decide) (by omega) (by omega)).mono ?_
 have hd : Lib.splitB ⟨#[32]⟩ 0 (min 3 ((ofL l).size + 1) - 1) (ofL l) = (parts1 l 2).map ofL := by
  refine toL_inj ?_
  rw [Lib.splitB_data ⟨#[32]⟩ 0 (min 3 ((ofL l).size + 1) - 1) (ofL l), ofL_size, ← parts_min l]
  rfl
 have hlen : (parts1 l 2).length ≤ min 3 ((ofL l).size + 1) := by
  have := Lib.splitB_length_le ⟨#[32]⟩ 0 (min 3 ((ofL l).size + 1) - 1) (ofL l)
  rw [hd, List.length_map] at this; omega
 rintro e w' ⟨rfl, rfl⟩
 rw [hd]
 refine ⟨⟨_, by rw [List.length_map], by simp, fun i hi => ?_⟩, (Below.refl _ _).alloc (Nat.le_refl _) _⟩
 have hc : (Lib.cellsOf ((parts1 l 2).map ofL) (min 3 ((ofL l).size + 1)))[i]? = some (.string (ofL ((parts1 l 2).getD i []))) := by
  unfold Lib.cellsOf
  rw [List.getElem?_toArray, List.getElem?_append_left (by simpa using hi)]
  simp [hi]
 rw [← hc]
 simp
theorem rz3 {w u : World} (hb : Below (w.heap.size + 1) (w.alloc (.cells #[.string ⟨#[]⟩, .string ⟨#[]⟩, .string ⟨#[]⟩] 51)) u) :
 (u.cell? ⟨w.heap.size, 0, none⟩ = some (.string ⟨#[]⟩) ∧ u.cell? ⟨w.heap.size, 1, none⟩ = some (.string ⟨#[]⟩) ∧ u.cell? ⟨w.heap.size, 2, none⟩ = some (.string ⟨#[]⟩)) ∧ u.frozen? ⟨w.heap.size, 0, none⟩ = false ∧ u.frozen? ⟨w.heap.size, 1, none⟩ = false ∧ u.frozen? ⟨w.heap.size, 2, none⟩ = false := by
 have c : ∀ j, u.cell? ⟨w.heap.size, j, none⟩ = (w.alloc (.cells #[.string ⟨#[]⟩, .string ⟨#[]⟩, .string ⟨#[]⟩] 51)).cell? ⟨w.heap.size, j, none⟩ := fun j => hb.cell (by simp)
 have f : ∀ j, u.frozen? ⟨w.heap.size, j, none⟩ = (w.alloc (.cells #[.string ⟨#[]⟩, .string ⟨#[]⟩, .string ⟨#[]⟩] 51)).frozen? ⟨w.heap.size, j, none⟩ := fun j => hb.frozen (by simp)
 rw [c, c, c, f, f, f]
 simp
theorem past {w : World} {p : Addr} {v : Value} (hp : p.block < w.heap.size) (h : w.cell? p = some v) (o : Obj) : (w.alloc o).cell? p = some v := by
 rw [((Below.refl w.heap.size w).alloc (Nat.le_refl _) o).cell hp]; exact h
theorem pastf {w : World} {p : Addr} (hp : p.block < w.heap.size) (h : w.frozen? p = false) (o : Obj) : (w.alloc o).frozen? p = false := by
 rw [((Below.refl w.heap.size w).alloc (Nat.le_refl _) o).frozen hp]; exact h
theorem c142' (l : List UInt8) (w : World) (hs : l.length ≤ 1048700) : Calls Tryz.prog 142 #[.string (ofL l)] w fun e w' => Is74 l e ∧ Below w.heap.size w w' := c142 (ofL l) w (by rw [ofL_size]; exact hs)
def Is38 (l : List UInt8) (e : Ending) : Prop := ∃ (x : M3) (ok : Bool), e = .returned (.tuple #[x.v, .bool ok]) ∧ IsBodyM l x ok
set_option maxHeartbeats 2000000 in
set_option maxRecDepth 100000 in
theorem c124 (l : List UInt8) (w : World) (hs : l.length ≤ 300) (hmx : MaxAt w) :
 Calls Tryz.prog 124 #[.string (ofL l)] w fun e w' => Is38 l e ∧ Below w.heap.size w w' := by
 have hno : (∀ y, okM y = true → l ≠ bodyL y) → Hid (Is38 l (.returned (.tuple #[.agg #[.string ⟨#[]⟩, .string ⟨#[]⟩, .string ⟨#[]⟩], .bool false]))) := fun h => ⟨m3z, false, rfl, bodyM_no h⟩
 have hB0 : Below w.heap.size w (w.alloc (.cells #[.string ⟨#[]⟩, .string ⟨#[]⟩, .string ⟨#[]⟩] 51)) := (Below.refl _ _).alloc (Nat.le_refl _) _
 go_enter Tryz.func124, Tryz.ntmps124
 go_wp2_with fail
 refine (c141w l _ (by omega) (max_below hmx hB0)).mono ?_
 rintro e w1 ⟨⟨cap, rfl, hln⟩, hb1⟩
 have hx1 : Below (w.heap.size + 1) (w.alloc (.cells #[.string ⟨#[]⟩, .string ⟨#[]⟩, .string ⟨#[]⟩] 51)) w1 := by simpa using hb1
 have hB1 : Below w.heap.size w w1 := hB0.trans (hx1.mono (by omega))
 have HLN : Hid (LinesAt w1 (w.heap.size + 1) (parts1 l 2)) := by have h := hln; simp at h; exact h
 clear hb1 hln
 obtain ⟨⟨z0, z1, z2⟩, y0, y1, y2⟩ := rz3 hx1
 by_cases hm : (32 : UInt8) ∈ l
 · by_cases hm2 : (32 : UInt8) ∈ restOf l
   · have hp : parts1 l 2 = [wordOf l, wordOf (restOf l), restOf (restOf l)] := by rw [parts_yes 1 hm, parts_yes 0 hm2, parts_zero]
     rw [hp] at HLN ⊢
     have hlt1 : w.heap.size + 1 < w1.heap.size := HLN.out.1
     have p0 : w1.cell? ⟨w.heap.size + 1, 0, none⟩ = some (.string (ofL (wordOf l))) := HLN.out.2 0 (by simp)
     have p1 : w1.cell? ⟨w.heap.size + 1, 1, none⟩ = some (.string (ofL (wordOf (restOf l)))) := HLN.out.2 1 (by simp)
     have p2 : w1.cell? ⟨w.heap.size + 1, 2, none⟩ = some (.string (ofL (restOf (restOf l)))) := HLN.out.2 2 (by simp)
     have hr1 := rest_small l
     have hr2 := rest_small (restOf l)
     have hbp := fun (t : List UInt8) (ok : Bool) hu => bodyM_parts (l := l) (t := t) (ok := ok) hm hm2 hu
     clear hp
     generalize hA : wordOf l = A at *
     generalize hR : restOf l = R at *
     generalize hBB : wordOf R = B at *
     generalize hQ : restOf R = Q at *
     simp only [List.length_cons, List.length_nil]
     go_wp2_with fail
     refine (c142' _ _ (by omega)).mono ?_
     rintro e w2 ⟨⟨t, ok, rfl, hu⟩, hb2⟩
     have hx2 := hx1.trans (hb2.mono (by omega))
     have hB2 : Below w.heap.size w w2 := hB0.trans (hx2.mono (by omega))
     have hlt2 : w.heap.size + 1 < w2.heap.size := Nat.lt_of_lt_of_le hlt1 hb2.size
     have q0 : w2.cell? ⟨w.heap.size + 1, 0, none⟩ = some (.string (ofL A)) := (hb2.cell (by exact hlt1)).trans p0
     have q1 : w2.cell? ⟨w.heap.size + 1, 1, none⟩ = some (.string (ofL B)) := (hb2.cell (by exact hlt1)).trans p1
     have q0' := past (by exact hlt2) q0
     have q1' := past (by exact hlt2) q1
     clear z0 z1 z2 y0 y1 y2 p0 p1 p2 HLN
     obtain ⟨⟨z0, z1, z2⟩, y0, y1, y2⟩ := rz3 hx2
     have hRlt : w.heap.size < w2.heap.size := by omega
     have z0' := past (by exact hRlt) z0
     have z1' := past (by exact hRlt) z1
     have z2' := past (by exact hRlt) z2
     have y0' := pastf (by exact hRlt) y0
     have y1' := pastf (by exact hRlt) y1
     have y2' := pastf (by exact hRlt) y2
     have HBP := hbp t ok hu
     clear hbp
     cases ok
     · have HI := hno (HBP.2 (by simp))
       clear hno HBP hu
       go_wp2_with fail
       go_region
       all_goals
        go_wp2_with fail
        have F := set3_at w2 w.heap.size 0 (.string ⟨#[]⟩) (.string ⟨#[]⟩) (.string ⟨#[]⟩) _ _ _ z0 z1 z2
        simp only [Nat.zero_add] at F
        have G0 := past (p := ⟨w.heap.size, 0, none⟩) (by simpa using hRlt) F.1
        have G1 := past (p := ⟨w.heap.size, 1, none⟩) (by simpa using hRlt) F.2.1
        have G2 := past (p := ⟨w.heap.size, 2, none⟩) (by simpa using hRlt) F.2.2
        refine bodyPost_ret (v := .tuple #[.agg #[.string ⟨#[]⟩, .string ⟨#[]⟩, .string ⟨#[]⟩], .bool false]) (by simp [results, Tryz.results124, go_sem, G0, G1, G2]) rfl ⟨HI.out, ?_⟩
        first
         | exact ((((hB2.setCell (by simp) _).setCell (by simp) _).setCell (by simp) _).alloc (by simpa using hB2.size) _).drew
         | exact (((hB2.setCell (by simp) _).setCell (by simp) _).setCell (by simp) _).alloc (by simpa using hB2.size) _
     · have hQl := hu.1 rfl
       have htl : t.length ≤ 300 := by
        have := quote_ge t
        rw [← hQl] at this; omega
       have hle : (⟨ofL A, ofL B, ofL t⟩ : M3).le 1048700 := ⟨by rw [ofL_size]; omega, by rw [ofL_size]; omega, by rw [ofL_size]; omega⟩
       clear hu
       cases hk : okM ⟨ofL A, ofL B, ofL t⟩
       · have HI := hno (HBP.2 (by rw [hk]; simp))
         have h32 := fun w' => c43v hk w' hle
         clear hno HBP hk
         go_wp2_with fail
         go_region
         all_goals
          go_wp2_with fail
          refine (h32 _).mono ?_
          rintro e w3 ⟨rfl, hb3⟩
          have hx3 : Below (w.heap.size + 1) (w.alloc (.cells #[.string ⟨#[]⟩, .string ⟨#[]⟩, .string ⟨#[]⟩] 51)) w3 := by
           refine Below.trans ?_ (hb3.mono (by simp; omega))
           first | exact (hx2.alloc (by omega) _).drew | exact hx2.alloc (by omega) _
          have hB3 : Below w.heap.size w w3 := hB0.trans (hx3.mono (by omega))
          clear z0 z1 z2 y0 y1 y2 z0' z1' z2' y0' y1' y2'
          obtain ⟨⟨z0, z1, z2⟩, y0, y1, y2⟩ := rz3 hx3
          go_wp2
          refine bodyPost_ret (v := .tuple #[.agg #[.string ⟨#[]⟩, .string ⟨#[]⟩, .string ⟨#[]⟩], .bool false]) (by simp [results, Tryz.results124, go_sem, z0, z1, z2]) rfl ⟨HI.out, ((hB3.setCell (by simp) _).setCell (by simp) _).setCell (by simp) _⟩
       · have HI : Hid (Is38 l (.returned (.tuple #[.agg #[.string (ofL A), .string (ofL B), .string (ofL t)], .bool true]))) := ⟨⟨ofL A, ofL B, ofL t⟩, true, rfl, HBP.1 rfl hk⟩
         have h32 := fun w' => c43v hk w' hle
         clear hno HBP hk
         go_wp2_with fail
         go_region
         all_goals
          go_wp2_with fail
          refine (h32 _).mono ?_
          rintro e w3 ⟨rfl, hb3⟩
          have hx3 : Below (w.heap.size + 1) (w.alloc (.cells #[.string ⟨#[]⟩, .string ⟨#[]⟩, .string ⟨#[]⟩] 51)) w3 := by
           refine Below.trans ?_ (hb3.mono (by simp; omega))
           first | exact (hx2.alloc (by omega) _).drew | exact hx2.alloc (by omega) _
          have hB3 : Below w.heap.size w w3 := hB0.trans (hx3.mono (by omega))
          have m0 : w3.cell? ⟨w2.heap.size, 0, none⟩ = some (.string (ofL A)) := by rw [hb3.cell (by simp)]; simp [go_sem]
          have m1 : w3.cell? ⟨w2.heap.size, 1, none⟩ = some (.string (ofL B)) := by rw [hb3.cell (by simp)]; simp [go_sem]
          have m2 : w3.cell? ⟨w2.heap.size, 2, none⟩ = some (.string (ofL t)) := by rw [hb3.cell (by simp)]; simp [go_sem]
          clear z0 z1 z2 y0 y1 y2 z0' z1' z2' y0' y1' y2'
          obtain ⟨⟨z0, z1, z2⟩, y0, y1, y2⟩ := rz3 hx3
          go_wp2
          have F := set3_at w3 w.heap.size 0 (.string (ofL A)) (.string (ofL B)) (.string (ofL t)) _ _ _ z0 z1 z2
          simp only [Nat.zero_add] at F
          refine bodyPost_ret (v := .tuple #[.agg #[.string (ofL A), .string (ofL B), .string (ofL t)], .bool true]) (by simp [results, Tryz.results124, go_sem, F.1, F.2.1, F.2.2]) rfl ⟨HI.out, ((hB3.setCell (by simp) _).setCell (by simp) _).setCell (by simp) _⟩
   · have hp : parts1 l 2 = [wordOf l, restOf l] := by rw [parts_yes 1 hm, parts_no _ hm2]
     have HI := hno (fun y hy e => hm2 (bodyM_two hy e).1.2)
     rw [hp]
     clear hno hp hm hm2
     simp only [List.length_cons, List.length_nil]
     go_wp2
     refine bodyPost_ret (v := .tuple #[.agg #[.string ⟨#[]⟩, .string ⟨#[]⟩, .string ⟨#[]⟩], .bool false]) (by simp [results, Tryz.results124, go_sem, z0, z1, z2]) rfl ⟨HI.out, ((hB1.setCell (by simp) _).setCell (by simp) _).setCell (by simp) _⟩
 · have hp : parts1 l 2 = [l] := parts_no _ hm
   have HI := hno (fun y hy e => hm (bodyM_two hy e).1.1)
   rw [hp]
   clear hno hp hm
   simp only [List.length_cons, List.length_nil]
   go_wp2
   refine bodyPost_ret (v := .tuple #[.agg #[.string ⟨#[]⟩, .string ⟨#[]⟩, .string ⟨#[]⟩], .bool false]) (by simp [results, Tryz.results124, go_sem, z0, z1, z2]) rfl ⟨HI.out, ((hB1.setCell (by simp) _).setCell (by simp) _).setCell (by simp) _⟩
end Go.Proofs.YtboojefodbjbcaaGreatDoor.G
