import Derived.Test.YtboojefodbjbcaaGreatDoorZR00
import Derived.Test.YtboojefodbjbcaaGreatDoorRJ
import Derived.Test.YtboojefodbjbcaaGreatDoorD7
namespace Go.Proofs.YtboojefodbjbcaaGreatDoor.G
open T (F2 f2z treeOk)
theorem isPlan_ex (l : List UInt8) : ∃ ks ok, IsPlan l ks ok := by
 by_cases h : ∃ js, planOk js = true ∧ js.flatMap makeL = l ∧ l.length ≤ 300
 · obtain ⟨js, h⟩ := h
   exact ⟨js, true, fun _ => h, fun e => (by cases e)⟩
 · exact ⟨[], false, fun e => (by cases e), fun _ => ⟨rfl, fun js h1 h2 => Classical.byContradiction fun h3 => h ⟨js, h1, h2, by omega⟩⟩⟩
theorem isPT_ex {fs : List F2} (h : treeOk fs) : ∃ ms, IsPT fs ms := by
 by_cases hf : Free fs planA
 · exact ⟨[], .inr (.inl ⟨h, hf, rfl⟩)⟩
 · obtain ⟨i, hi, hn⟩ : ∃ i, i < fs.length ∧ (fs.getD i f2z).nm = planA := Classical.byContradiction fun hx => hf (fun j hj e => hx ⟨j, hj, e⟩)
   obtain ⟨ks, ok, hk⟩ := isPlan_ex (fs.getD i f2z).tx.data.toList
   by_cases hc : ok = true ∧ FreeAll fs ks
   · exact ⟨ks, .inr (.inr ⟨h, i, hi, hn, ks, ok, hk, .inl ⟨hc.1, hc.2, rfl⟩⟩)⟩
   · exact ⟨[], .inr (.inr ⟨h, i, hi, hn, ks, ok, hk, .inr ⟨hc, rfl⟩⟩)⟩
end Go.Proofs.YtboojefodbjbcaaGreatDoor.G
namespace Go.Proofs.YtboojefodbjbcaaGreatDoor
open Go.RowKit Go.Maps
set_option maxRecDepth 100000
set_option linter.unusedVariables false
theorem c35k {x : ByteArray} {c : Int} {u : List UInt8} (w : World) (hs : x.size ≤ 1048700) (h : IsR x.data.toList c u true) :
 Calls Tryz.prog 35 #[.string x] w fun e w' => e = .returned (.tuple #[.agg #[.int .i64 (hC x), .string (hT x)], .bool true]) ∧ Below w.heap.size w w' := by
 refine (c35 x w hs).mono ?_
 rintro e w' ⟨⟨c', t', ok, rfl, hr, _⟩, hb⟩
 obtain ⟨rfl, rfl, rfl⟩ := isR_one hr h
 obtain ⟨e1, e2⟩ := hV_read h
 rw [ofL_self] at e1 e2
 exact ⟨by rw [e1, e2], hb⟩
theorem flat4 (ls : List L4) : ∀ (k : Nat) (hk : k < ls.length) (j : Nat), j < 4 → (lC ls)[k * 4 + j]? = [Value.bool (ls.getD k l4z).has, .string (ls.getD k l4z).nm, .int .i64 (ls.getD k l4z).cd, .string (ls.getD k l4z).tx][j]? := by
 induction ls with
 | nil => exact fun k hk => absurd hk (Nat.not_lt_zero _)
 | cons x r ih =>
  intro k hk j hj
  have e : lC (x :: r) = [Value.bool x.has, .string x.nm, .int .i64 x.cd, .string x.tx] ++ lC r := by simp [lC]
  rw [e]
  cases k with
  | zero => rw [List.getElem?_append_left (by simp; omega)]; simp
  | succ k =>
   rw [List.getElem?_append_right (by simp; omega)]
   have := ih k (by simpa using hk) j hj
   rw [show (k + 1) * 4 + j - [Value.bool x.has, .string x.nm, .int .i64 x.cd, .string x.tx].length = k * 4 + j by simp; omega]
   exact this
theorem lks_own {w : World} {base : Nat} {a : Option Addr} {c : Nat} {ls : List L4} (h : w.ownsRow base 108 4 (.slice a ls.length c) ls.length (lC ls)) : LksAt w a ls := by
 by_cases h0 : ls = []
 · exact .inl h0
 · have hp : 0 < ls.length := List.length_pos_iff.2 h0
   obtain ⟨g, rfl, hg⟩ := row_addr h hp
   refine .inr ⟨g, 0, rfl, hg, fun i hi => ?_⟩
   have q := fun j (hj : j < 4) => (h.cellAt (i * 4 + j) (by omega)).trans (flat4 ls i hi j hj)
   simp only [Nat.zero_add]
   exact ⟨q 0 (by omega), q 1 (by omega), q 2 (by omega), q 3 (by omega)⟩
theorem is33_form {base : Nat} {o : Option (List L4 × Option ByteArray)} {w' : World} {e : Ending} (h : Is33 base o w' e) : ∃ (v : Value) (st : ByteArray) (b : Bool), e = .returned (.tuple #[v, .string st, .bool b]) ∧ ((o = none ∧ st = ⟨#[]⟩ ∧ b = false) ∨ ∃ ls q a c, o = some (ls, q) ∧ v = .slice a ls.length c ∧ st = q.getD ⟨#[]⟩ ∧ b = true ∧ w'.ownsRow base 108 4 (.slice a ls.length c) ls.length (lC ls)) := by
 unfold Is33 at h
 split at h
 · obtain ⟨a, n, c, rfl⟩ := h
   exact ⟨_, _, _, rfl, .inl ⟨rfl, rfl, rfl⟩⟩
 · obtain ⟨v, rfl, hown⟩ := h
   obtain ⟨a, c, rfl⟩ := row_form hown
   exact ⟨_, _, _, rfl, .inr ⟨_, _, a, c, rfl, rfl, rfl, rfl, hown⟩⟩
theorem drop_rec {rs : List R3} {k : Nat} (h : k < rs.length) : rs.drop k = rs.getD k r3z :: rs.drop (k + 1) := by
 rw [List.drop_eq_getElem_cons h]
 simp [List.getD, List.getElem?_eq_getElem h]
theorem find_at : ∀ (ts : List ByteArray) (W : Int) (o : ByteArray) (k : Nat), k < ts.length → (∀ j, j < k → ¬ sumS (ts.getD j ByteArray.empty) W = o) → sumS (ts.getD k ByteArray.empty) W = o → ts.find? (fun t => decide (sumS t W = o)) = some (ts.getD k ByteArray.empty)
 | [], W, o, k, h, _, _ => absurd h (Nat.not_lt_zero _)
 | t :: r, W, o, 0, _, _, hn => by
  have hn' : sumS t W = o := hn
  simp [List.find?, hn']
 | t :: r, W, o, k + 1, h, hj, hn => by
  have h0 : ¬ sumS t W = o := hj 0 (by omega)
  simp only [List.find?, h0, decide_false]
  exact find_at r W o k (by simpa using h) (fun j h => hj (j + 1) (by omega)) hn
theorem find_none : ∀ (ts : List ByteArray) (W : Int) (o : ByteArray), (∀ j, j < ts.length → ¬ sumS (ts.getD j ByteArray.empty) W = o) → ts.find? (fun t => decide (sumS t W = o)) = none
 | [], W, o, _ => rfl
 | t :: r, W, o, hj => by
  have h0 : ¬ sumS t W = o := hj 0 (by simp)
  simp only [List.find?, h0, decide_false]
  exact find_none r W o (fun j h => hj (j + 1) (by simpa using h))
set_option maxHeartbeats 16000000 in
theorem c8 (s : St) (ta ra : Option Addr) (tc rc : Nat) (a : Option Addr) (cap : Nat) (fs : List G.T.F2) (m : M3) (da : Option Addr) (dc : Nat) (ds : List G.D8) (w : World) (hs : s.le 1048576) (hat : StAt w ta ra s) (hfl : fs.length ≤ 1048576) (hfs : ∀ i, (fs.getD i G.T.f2z).le 1048576) (hft : G.T.FilesAt w a fs) (hm : m.le 1048576) (hdl : ds.length ≤ 1048576) (hds : ∀ i, (ds.getD i G.d8z).le 1048576) (hdt : G.DeedsAt w da ds) :
 Calls Tryz.prog 8 #[.agg #[.int .i64 s.wd, .slice ta s.ts.length tc, .slice ra s.rs.length rc], .agg #[.slice a fs.length cap], .agg #[.string m.nm, .string m.tl, .string m.ar], .slice da ds.length dc] w fun e w' => Is46 w.heap.size (anF s fs m ds) w' e ∧ Below w.heap.size w w' := by
 have hBU0 : Below w.heap.size w (((((w.alloc (.cells #[.int .i64 s.wd, .slice ta s.ts.length tc, .slice ra s.rs.length rc] 45)).alloc (.cells #[.slice a fs.length cap] 49)).alloc (.cells #[.string m.nm, .string m.tl, .string m.ar] 51)).alloc (.cells #[.bool false, .int .i64 0, .string ⟨#[]⟩, .bool false, .string ⟨#[]⟩, .int .i64 0] 39)).alloc (.cells #[] 108)) := (((((Below.refl _ _).alloc (Nat.le_refl _) _).alloc (by simp) _).alloc (by simp; omega) _).alloc (by simp; omega) _).alloc (by simp; omega) _
 have sz0 : (((((w.alloc (.cells #[.int .i64 s.wd, .slice ta s.ts.length tc, .slice ra s.rs.length rc] 45)).alloc (.cells #[.slice a fs.length cap] 49)).alloc (.cells #[.string m.nm, .string m.tl, .string m.ar] 51)).alloc (.cells #[.bool false, .int .i64 0, .string ⟨#[]⟩, .bool false, .string ⟨#[]⟩, .int .i64 0] 39)).alloc (.cells #[] 108)).heap.size = w.heap.size + 5 := by simp
 have bP : Below (w.heap.size + 4) ((((w.alloc (.cells #[.int .i64 s.wd, .slice ta s.ts.length tc, .slice ra s.rs.length rc] 45)).alloc (.cells #[.slice a fs.length cap] 49)).alloc (.cells #[.string m.nm, .string m.tl, .string m.ar] 51)).alloc (.cells #[.bool false, .int .i64 0, .string ⟨#[]⟩, .bool false, .string ⟨#[]⟩, .int .i64 0] 39)) (((((w.alloc (.cells #[.int .i64 s.wd, .slice ta s.ts.length tc, .slice ra s.rs.length rc] 45)).alloc (.cells #[.slice a fs.length cap] 49)).alloc (.cells #[.string m.nm, .string m.tl, .string m.ar] 51)).alloc (.cells #[.bool false, .int .i64 0, .string ⟨#[]⟩, .bool false, .string ⟨#[]⟩, .int .i64 0] 39)).alloc (.cells #[] 108)) := (Below.refl _ _).alloc (by simp) _
 have EA : BlkAt ((((w.alloc (.cells #[.int .i64 s.wd, .slice ta s.ts.length tc, .slice ra s.rs.length rc] 45)).alloc (.cells #[.slice a fs.length cap] 49)).alloc (.cells #[.string m.nm, .string m.tl, .string m.ar] 51)).alloc (.cells #[.bool false, .int .i64 0, .string ⟨#[]⟩, .bool false, .string ⟨#[]⟩, .int .i64 0] 39)) w.heap.size [.int .i64 s.wd, .slice ta s.ts.length tc, .slice ra s.rs.length rc] := fun j v h => by simp [go_sem, h]
 have ET : BlkAt ((((w.alloc (.cells #[.int .i64 s.wd, .slice ta s.ts.length tc, .slice ra s.rs.length rc] 45)).alloc (.cells #[.slice a fs.length cap] 49)).alloc (.cells #[.string m.nm, .string m.tl, .string m.ar] 51)).alloc (.cells #[.bool false, .int .i64 0, .string ⟨#[]⟩, .bool false, .string ⟨#[]⟩, .int .i64 0] 39)) (w.heap.size + 1) [.slice a fs.length cap] := fun j v h => by simp [go_sem, h]
 have EM : BlkAt ((((w.alloc (.cells #[.int .i64 s.wd, .slice ta s.ts.length tc, .slice ra s.rs.length rc] 45)).alloc (.cells #[.slice a fs.length cap] 49)).alloc (.cells #[.string m.nm, .string m.tl, .string m.ar] 51)).alloc (.cells #[.bool false, .int .i64 0, .string ⟨#[]⟩, .bool false, .string ⟨#[]⟩, .int .i64 0] 39)) (w.heap.size + 1 + 1) [.string m.nm, .string m.tl, .string m.ar] := fun j v h => by simp [go_sem, h]
 have B6 : Hid (BlkAt (((((w.alloc (.cells #[.int .i64 s.wd, .slice ta s.ts.length tc, .slice ra s.rs.length rc] 45)).alloc (.cells #[.slice a fs.length cap] 49)).alloc (.cells #[.string m.nm, .string m.tl, .string m.ar] 51)).alloc (.cells #[.bool false, .int .i64 0, .string ⟨#[]⟩, .bool false, .string ⟨#[]⟩, .int .i64 0] 39)).alloc (.cells #[] 108)) (w.heap.size + 1 + 1 + 1) [.bool false, .int .i64 0, .string ⟨#[]⟩, .bool false, .string ⟨#[]⟩, .int .i64 0]) := hidI (BlkAt.below (u := ((((w.alloc (.cells #[.int .i64 s.wd, .slice ta s.ts.length tc, .slice ra s.rs.length rc] 45)).alloc (.cells #[.slice a fs.length cap] 49)).alloc (.cells #[.string m.nm, .string m.tl, .string m.ar] 51)).alloc (.cells #[.bool false, .int .i64 0, .string ⟨#[]⟩, .bool false, .string ⟨#[]⟩, .int .i64 0] 39))) (fun j v h => by simp [go_sem, h]) bP (by omega))
 have O6 : Hid (OpnAt (((((w.alloc (.cells #[.int .i64 s.wd, .slice ta s.ts.length tc, .slice ra s.rs.length rc] 45)).alloc (.cells #[.slice a fs.length cap] 49)).alloc (.cells #[.string m.nm, .string m.tl, .string m.ar] 51)).alloc (.cells #[.bool false, .int .i64 0, .string ⟨#[]⟩, .bool false, .string ⟨#[]⟩, .int .i64 0] 39)).alloc (.cells #[] 108)) (w.heap.size + 1 + 1 + 1)) := hidI (OpnAt.below (u := ((((w.alloc (.cells #[.int .i64 s.wd, .slice ta s.ts.length tc, .slice ra s.rs.length rc] 45)).alloc (.cells #[.slice a fs.length cap] 49)).alloc (.cells #[.string m.nm, .string m.tl, .string m.ar] 51)).alloc (.cells #[.bool false, .int .i64 0, .string ⟨#[]⟩, .bool false, .string ⟨#[]⟩, .int .i64 0] 39))) (fun j => by simp [go_sem]) bP (by omega))
 replace EA := hidI (EA.below bP (by omega))
 replace ET := hidI (ET.below bP (by omega))
 replace EM := hidI (EM.below bP (by omega))
 have a0 := EA.out 0 _ rfl
 have a1 := EA.out 1 _ rfl
 have a2 := EA.out 2 _ rfl
 have t0 := ET.out 0 _ rfl
 have m0 := EM.out 0 _ rfl
 have m1 := EM.out 1 _ rfl
 have m2 := EM.out 2 _ rfl
 have RW : Hid ((((((w.alloc (.cells #[.int .i64 s.wd, .slice ta s.ts.length tc, .slice ra s.rs.length rc] 45)).alloc (.cells #[.slice a fs.length cap] 49)).alloc (.cells #[.string m.nm, .string m.tl, .string m.ar] 51)).alloc (.cells #[.bool false, .int .i64 0, .string ⟨#[]⟩, .bool false, .string ⟨#[]⟩, .int .i64 0] 39)).alloc (.cells #[] 108)).ownsRow (w.heap.size + 4) 108 4 (.slice (some ⟨w.heap.size + 1 + 1 + 1 + 1, 0, none⟩) 0 0) 0 (lC [])) := by
  have h := World.ownsRow_made ((((w.alloc (.cells #[.int .i64 s.wd, .slice ta s.ts.length tc, .slice ra s.rs.length rc] 45)).alloc (.cells #[.slice a fs.length cap] 49)).alloc (.cells #[.string m.nm, .string m.tl, .string m.ar] 51)).alloc (.cells #[.bool false, .int .i64 0, .string ⟨#[]⟩, .bool false, .string ⟨#[]⟩, .int .i64 0] 39)) #[] 0 (base := w.heap.size + 4) (e := 108) (size := 4) (by simp) (Nat.zero_le _) rfl
  have e : ((((w.alloc (.cells #[.int .i64 s.wd, .slice ta s.ts.length tc, .slice ra s.rs.length rc] 45)).alloc (.cells #[.slice a fs.length cap] 49)).alloc (.cells #[.string m.nm, .string m.tl, .string m.ar] 51)).alloc (.cells #[.bool false, .int .i64 0, .string ⟨#[]⟩, .bool false, .string ⟨#[]⟩, .int .i64 0] 39)).heap.size = w.heap.size + 1 + 1 + 1 + 1 := by simp
  rw [e] at h
  exact h
 have HAT := hidI hat
 have HFT := hidI hft
 have HDT := hidI hdt
 have HSL := hidI hs
 have HFS := hidI hfs
 have HDS := hidI hds
 have hm1 := hm.2.1
 have hm2 := hm.2.2
 have HMK : Hid (m.le 1048700) := hidI ⟨Nat.le_trans hm.1 (by omega), Nat.le_trans hm.2.1 (by omega), Nat.le_trans hm.2.2 (by omega)⟩
 have hrl := hs.2.1
 have htl := hs.1.1
 clear hat hft hdt hs hfs hds hm bP EA ET EM
 go_enter Tryz.func8, Tryz.ntmps8
 go_wp2_with fail
 generalize (((((w.alloc (.cells #[.int .i64 s.wd, .slice ta s.ts.length tc, .slice ra s.rs.length rc] 45)).alloc (.cells #[.slice a fs.length cap] 49)).alloc (.cells #[.string m.nm, .string m.tl, .string m.ar] 51)).alloc (.cells #[.bool false, .int .i64 0, .string ⟨#[]⟩, .bool false, .string ⟨#[]⟩, .int .i64 0] 39)).alloc (.cells #[] 108)) = U0 at *
 have hUU0 : Below U0.heap.size U0 U0 := Below.refl _ _
 refine (c28 ta ra tc rc s U0 HSL.out (HAT.out.below hBU0)).mono ?_
 rintro e w2 ⟨⟨q, rfl, hq⟩, hb2⟩
 have hBw2 : Below w.heap.size w w2 := hBU0.trans (hb2.mono hBU0.size)
 have hUw2 : Below U0.heap.size U0 w2 := hUU0.trans (hb2.mono hUU0.size)
 clear hb2
 cases q with
 | false =>
  have HNO : Hid (¬ AllOk s fs m ds) := hidI (fun h => by have := hq.2 h.1; cases this)
  clear hq
  have BV := hidI (B6.out.below hUw2 (by omega))
  have OV := hidI (O6.out.below hUw2 (by omega))
  have hBV := hBw2
  have x0 := BV.out 0 _ rfl
  have fx0 := OV.out 0
  have x1 := BV.out 1 _ rfl
  have fx1 := OV.out 1
  have x2 := BV.out 2 _ rfl
  have fx2 := OV.out 2
  have x3 := BV.out 3 _ rfl
  have fx3 := OV.out 3
  have x4 := BV.out 4 _ rfl
  have fx4 := OV.out 4
  have x5 := BV.out 5 _ rfl
  have fx5 := OV.out 5
  go_wp2
  have HE := hidI (blk6 BV.out (.bool false) (.int .i64 0) (.string ⟨#[]⟩) (.bool false) (.string ⟨#[]⟩) (.int .i64 0))
  have e0q := HE.out 0 _ rfl
  have e1q := HE.out 1 _ rfl
  have e2q := HE.out 2 _ rfl
  have e3q := HE.out 3 _ rfl
  have e4q := HE.out 4 _ rfl
  have e5q := HE.out 5 _ rfl
  refine bodyPost_ret (v := .tuple #[.agg #[.bool false, .int .i64 0, .string ⟨#[]⟩, .bool false, .string ⟨#[]⟩, .int .i64 0], .slice (some ⟨w.heap.size + 1 + 1 + 1 + 1, 0, none⟩) 0 0]) (by simp [results, Tryz.results8, go_sem, e0q, e1q, e2q, e3q, e4q, e5q]) rfl ⟨?_, ((((((hBV.setCell (by simp; omega) _).setCell (by simp; omega) _).setCell (by simp; omega) _).setCell (by simp; omega) _).setCell (by simp; omega) _).setCell (by simp; omega) _)⟩
  rw [anF_no HNO.out]
  exact ⟨_, rfl, own_low (own_setp (own_setp (own_setp (own_setp (own_setp (own_setp (own_below RW.out hUw2) (p := ⟨w.heap.size + 1 + 1 + 1, 0, none⟩) (.bool false) (by show w.heap.size + 1 + 1 + 1 < _; omega)) (p := ⟨w.heap.size + 1 + 1 + 1, 1, none⟩) (.int .i64 0) (by show w.heap.size + 1 + 1 + 1 < _; omega)) (p := ⟨w.heap.size + 1 + 1 + 1, 2, none⟩) (.string ⟨#[]⟩) (by show w.heap.size + 1 + 1 + 1 < _; omega)) (p := ⟨w.heap.size + 1 + 1 + 1, 3, none⟩) (.bool false) (by show w.heap.size + 1 + 1 + 1 < _; omega)) (p := ⟨w.heap.size + 1 + 1 + 1, 4, none⟩) (.string ⟨#[]⟩) (by show w.heap.size + 1 + 1 + 1 < _; omega)) (p := ⟨w.heap.size + 1 + 1 + 1, 5, none⟩) (.int .i64 0) (by show w.heap.size + 1 + 1 + 1 < _; omega)) (by omega)⟩
 | true =>
  have HSO := hidI (hq.1 rfl)
  clear hq
  have t2 := (hUw2.cell (p := ⟨w.heap.size + 1, 0, none⟩) (show w.heap.size + 1 < U0.heap.size by omega)).trans t0
  go_wp2_with fail
  refine (G.T.c29 a cap fs w2 hfl HFS.out (G.T.files_below HFT.out hBw2)).mono ?_
  rintro e w3 ⟨⟨q, rfl, hq⟩, hb3⟩
  have hBw3 : Below w.heap.size w w3 := hBw2.trans (hb3.mono hBw2.size)
  have hUw3 : Below U0.heap.size U0 w3 := hUw2.trans (hb3.mono hUw2.size)
  clear hb3 t2
  cases q with
  | false =>
   have HNO : Hid (¬ AllOk s fs m ds) := hidI (fun h => by have := hq.2 h.2.1; cases this)
   clear hq
   have BV := hidI (B6.out.below hUw3 (by omega))
   have OV := hidI (O6.out.below hUw3 (by omega))
   have hBV := hBw3
   have x0 := BV.out 0 _ rfl
   have fx0 := OV.out 0
   have x1 := BV.out 1 _ rfl
   have fx1 := OV.out 1
   have x2 := BV.out 2 _ rfl
   have fx2 := OV.out 2
   have x3 := BV.out 3 _ rfl
   have fx3 := OV.out 3
   have x4 := BV.out 4 _ rfl
   have fx4 := OV.out 4
   have x5 := BV.out 5 _ rfl
   have fx5 := OV.out 5
   go_wp2
   have HE := hidI (blk6 BV.out (.bool false) (.int .i64 0) (.string ⟨#[]⟩) (.bool false) (.string ⟨#[]⟩) (.int .i64 0))
   have e0q := HE.out 0 _ rfl
   have e1q := HE.out 1 _ rfl
   have e2q := HE.out 2 _ rfl
   have e3q := HE.out 3 _ rfl
   have e4q := HE.out 4 _ rfl
   have e5q := HE.out 5 _ rfl
   refine bodyPost_ret (v := .tuple #[.agg #[.bool false, .int .i64 0, .string ⟨#[]⟩, .bool false, .string ⟨#[]⟩, .int .i64 0], .slice (some ⟨w.heap.size + 1 + 1 + 1 + 1, 0, none⟩) 0 0]) (by simp [results, Tryz.results8, go_sem, e0q, e1q, e2q, e3q, e4q, e5q]) rfl ⟨?_, ((((((hBV.setCell (by simp; omega) _).setCell (by simp; omega) _).setCell (by simp; omega) _).setCell (by simp; omega) _).setCell (by simp; omega) _).setCell (by simp; omega) _)⟩
   rw [anF_no HNO.out]
   exact ⟨_, rfl, own_low (own_setp (own_setp (own_setp (own_setp (own_setp (own_setp (own_below RW.out hUw3) (p := ⟨w.heap.size + 1 + 1 + 1, 0, none⟩) (.bool false) (by show w.heap.size + 1 + 1 + 1 < _; omega)) (p := ⟨w.heap.size + 1 + 1 + 1, 1, none⟩) (.int .i64 0) (by show w.heap.size + 1 + 1 + 1 < _; omega)) (p := ⟨w.heap.size + 1 + 1 + 1, 2, none⟩) (.string ⟨#[]⟩) (by show w.heap.size + 1 + 1 + 1 < _; omega)) (p := ⟨w.heap.size + 1 + 1 + 1, 3, none⟩) (.bool false) (by show w.heap.size + 1 + 1 + 1 < _; omega)) (p := ⟨w.heap.size + 1 + 1 + 1, 4, none⟩) (.string ⟨#[]⟩) (by show w.heap.size + 1 + 1 + 1 < _; omega)) (p := ⟨w.heap.size + 1 + 1 + 1, 5, none⟩) (.int .i64 0) (by show w.heap.size + 1 + 1 + 1 < _; omega)) (by omega)⟩
  | true =>
   have HTO := hidI (hq.1 rfl)
   clear hq
   have n0 := (hUw3.cell (p := ⟨w.heap.size + 1 + 1, 0, none⟩) (show w.heap.size + 1 + 1 < U0.heap.size by omega)).trans m0
   have n1 := (hUw3.cell (p := ⟨w.heap.size + 1 + 1, 1, none⟩) (show w.heap.size + 1 + 1 < U0.heap.size by omega)).trans m1
   have n2 := (hUw3.cell (p := ⟨w.heap.size + 1 + 1, 2, none⟩) (show w.heap.size + 1 + 1 < U0.heap.size by omega)).trans m2
   go_wp2_with fail
   refine (c30 m w3 HMK.out).mono ?_
   rintro e w4 ⟨rfl, hb4⟩
   have hBw4 : Below w.heap.size w w4 := hBw3.trans (hb4.mono hBw3.size)
   have hUw4 : Below U0.heap.size U0 w4 := hUw3.trans (hb4.mono hUw3.size)
   clear hb4 n0 n1 n2
   cases hq : okM m with
   | false =>
    have HNO : Hid (¬ AllOk s fs m ds) := hidI (fun h => by have := h.2.2.1; rw [hq] at this; cases this)
    have BV := hidI (B6.out.below hUw4 (by omega))
    have OV := hidI (O6.out.below hUw4 (by omega))
    have hBV := hBw4
    have x0 := BV.out 0 _ rfl
    have fx0 := OV.out 0
    have x1 := BV.out 1 _ rfl
    have fx1 := OV.out 1
    have x2 := BV.out 2 _ rfl
    have fx2 := OV.out 2
    have x3 := BV.out 3 _ rfl
    have fx3 := OV.out 3
    have x4 := BV.out 4 _ rfl
    have fx4 := OV.out 4
    have x5 := BV.out 5 _ rfl
    have fx5 := OV.out 5
    go_wp2
    have HE := hidI (blk6 BV.out (.bool false) (.int .i64 0) (.string ⟨#[]⟩) (.bool false) (.string ⟨#[]⟩) (.int .i64 0))
    have e0q := HE.out 0 _ rfl
    have e1q := HE.out 1 _ rfl
    have e2q := HE.out 2 _ rfl
    have e3q := HE.out 3 _ rfl
    have e4q := HE.out 4 _ rfl
    have e5q := HE.out 5 _ rfl
    refine bodyPost_ret (v := .tuple #[.agg #[.bool false, .int .i64 0, .string ⟨#[]⟩, .bool false, .string ⟨#[]⟩, .int .i64 0], .slice (some ⟨w.heap.size + 1 + 1 + 1 + 1, 0, none⟩) 0 0]) (by simp [results, Tryz.results8, go_sem, e0q, e1q, e2q, e3q, e4q, e5q]) rfl ⟨?_, ((((((hBV.setCell (by simp; omega) _).setCell (by simp; omega) _).setCell (by simp; omega) _).setCell (by simp; omega) _).setCell (by simp; omega) _).setCell (by simp; omega) _)⟩
    rw [anF_no HNO.out]
    exact ⟨_, rfl, own_low (own_setp (own_setp (own_setp (own_setp (own_setp (own_setp (own_below RW.out hUw4) (p := ⟨w.heap.size + 1 + 1 + 1, 0, none⟩) (.bool false) (by show w.heap.size + 1 + 1 + 1 < _; omega)) (p := ⟨w.heap.size + 1 + 1 + 1, 1, none⟩) (.int .i64 0) (by show w.heap.size + 1 + 1 + 1 < _; omega)) (p := ⟨w.heap.size + 1 + 1 + 1, 2, none⟩) (.string ⟨#[]⟩) (by show w.heap.size + 1 + 1 + 1 < _; omega)) (p := ⟨w.heap.size + 1 + 1 + 1, 3, none⟩) (.bool false) (by show w.heap.size + 1 + 1 + 1 < _; omega)) (p := ⟨w.heap.size + 1 + 1 + 1, 4, none⟩) (.string ⟨#[]⟩) (by show w.heap.size + 1 + 1 + 1 < _; omega)) (p := ⟨w.heap.size + 1 + 1 + 1, 5, none⟩) (.int .i64 0) (by show w.heap.size + 1 + 1 + 1 < _; omega)) (by omega)⟩
   | true =>
    have HOM := hidI hq
    clear hq
    obtain ⟨db, dof, hdc⟩ := G.deeds_some HDT.out
    have HDC := hidI hdc
    clear hdc
    go_wp2_with fail
    go_loopw [11] (fun i wr => ∃ (k : Nat), k ≤ ds.length ∧ i = .int .i64 k ∧ Below U0.heap.size U0 wr ∧ Hid (∀ j, j < k → nameOk (ds.getD j G.d8z).nm.data.toList = true ∧ vr (ds.getD j G.d8z).cd (ds.getD j G.d8z).tx.data.toList = true)) (fun i _ => ds.length - (Go.RowKit.intOf i).toNat)
    case atStart => exact ⟨0, Nat.zero_le _, rfl, hUw4, fun j h => absurd h (Nat.not_lt_zero _)⟩
    case round =>
     obtain ⟨k, hk, rfl, hUwr, hok⟩ := hrel
     have hBwr : Below w.heap.size w wr := hBU0.trans (hUwr.mono hBU0.size)
     by_cases hlt : k < ds.length
     · rcases HDC.out with hss | ⟨ha, hbw, hcell⟩
       · rw [hss] at hlt; exact absurd hlt (Nat.not_lt_zero _)
       subst ha
       obtain ⟨gi, gc, ⟨g0, g1, g2, g3, g4, g5, g6, g7⟩, _⟩ := (hcell k hlt).below hbw hBwr
       have hx1 := (HDS.out k).1
       have hx2 := (HDS.out k).2.2.2
       have HNX : Hid (¬ (nameOk (ds.getD k G.d8z).nm.data.toList = true ∧ vr (ds.getD k G.d8z).cd (ds.getD k G.d8z).tx.data.toList = true) → ¬ AllOk s fs m ds) := hidI (fun h hd => h (hd.2.2.2 k hlt))
       have HYE : Hid (nameOk (ds.getD k G.d8z).nm.data.toList = true ∧ vr (ds.getD k G.d8z).cd (ds.getD k G.d8z).tx.data.toList = true → ∀ j, j < k + 1 → nameOk (ds.getD j G.d8z).nm.data.toList = true ∧ vr (ds.getD j G.d8z).cd (ds.getD j G.d8z).tx.data.toList = true) := hidI (fun h j hj => by
        by_cases e : j = k
        · subst e; exact h
        · exact hok.out j (by omega))
       generalize ds.getD k G.d8z = x at *
       clear hcell hok g1 g2 g3 g4 g5
       go_wp2_with fail
       refine (c31 x.nm _ (by omega)).mono ?_
       rintro e u ⟨rfl, rfl⟩
       cases hq : nameOk x.nm.data.toList with
       | false =>
        have HNO := hidI (HNX.out (fun h => by rw [hq] at h; cases h.1))
        clear HNX HYE hq
        have BV := hidI (B6.out.below hUwr (by omega))
        have OV := hidI (O6.out.below hUwr (by omega))
        have hBV := hBwr
        have x0 := BV.out 0 _ rfl
        have fx0 := OV.out 0
        have x1 := BV.out 1 _ rfl
        have fx1 := OV.out 1
        have x2 := BV.out 2 _ rfl
        have fx2 := OV.out 2
        have x3 := BV.out 3 _ rfl
        have fx3 := OV.out 3
        have x4 := BV.out 4 _ rfl
        have fx4 := OV.out 4
        have x5 := BV.out 5 _ rfl
        have fx5 := OV.out 5
        go_wp2
        have HE := hidI (blk6 BV.out (.bool false) (.int .i64 0) (.string ⟨#[]⟩) (.bool false) (.string ⟨#[]⟩) (.int .i64 0))
        have e0q := HE.out 0 _ rfl
        have e1q := HE.out 1 _ rfl
        have e2q := HE.out 2 _ rfl
        have e3q := HE.out 3 _ rfl
        have e4q := HE.out 4 _ rfl
        have e5q := HE.out 5 _ rfl
        refine bodyPost_ret (v := .tuple #[.agg #[.bool false, .int .i64 0, .string ⟨#[]⟩, .bool false, .string ⟨#[]⟩, .int .i64 0], .slice (some ⟨w.heap.size + 1 + 1 + 1 + 1, 0, none⟩) 0 0]) (by simp [results, Tryz.results8, go_sem, e0q, e1q, e2q, e3q, e4q, e5q]) rfl ⟨?_, ((((((hBV.setCell (by simp; omega) _).setCell (by simp; omega) _).setCell (by simp; omega) _).setCell (by simp; omega) _).setCell (by simp; omega) _).setCell (by simp; omega) _)⟩
        rw [anF_no HNO.out]
        exact ⟨_, rfl, own_low (own_setp (own_setp (own_setp (own_setp (own_setp (own_setp (own_below RW.out hUwr) (p := ⟨w.heap.size + 1 + 1 + 1, 0, none⟩) (.bool false) (by show w.heap.size + 1 + 1 + 1 < _; omega)) (p := ⟨w.heap.size + 1 + 1 + 1, 1, none⟩) (.int .i64 0) (by show w.heap.size + 1 + 1 + 1 < _; omega)) (p := ⟨w.heap.size + 1 + 1 + 1, 2, none⟩) (.string ⟨#[]⟩) (by show w.heap.size + 1 + 1 + 1 < _; omega)) (p := ⟨w.heap.size + 1 + 1 + 1, 3, none⟩) (.bool false) (by show w.heap.size + 1 + 1 + 1 < _; omega)) (p := ⟨w.heap.size + 1 + 1 + 1, 4, none⟩) (.string ⟨#[]⟩) (by show w.heap.size + 1 + 1 + 1 < _; omega)) (p := ⟨w.heap.size + 1 + 1 + 1, 5, none⟩) (.int .i64 0) (by show w.heap.size + 1 + 1 + 1 < _; omega)) (by omega)⟩
       | true =>
        go_wp2_with fail
        refine (c32 x.cd x.tx _ (by omega)).mono ?_
        rintro e w5 ⟨rfl, hb5⟩
        have hUw5 : Below U0.heap.size U0 w5 := hUwr.trans (hb5.mono hUwr.size)
        have hBw5 : Below w.heap.size w w5 := hBU0.trans (hUw5.mono hBU0.size)
        clear hb5
        cases hv : vr x.cd x.tx.data.toList with
        | false =>
         have HNO := hidI (HNX.out (fun h => by rw [hv] at h; cases h.2))
         clear HNX HYE hq hv
         have BV := hidI (B6.out.below hUw5 (by omega))
         have OV := hidI (O6.out.below hUw5 (by omega))
         have hBV := hBw5
         have x0 := BV.out 0 _ rfl
         have fx0 := OV.out 0
         have x1 := BV.out 1 _ rfl
         have fx1 := OV.out 1
         have x2 := BV.out 2 _ rfl
         have fx2 := OV.out 2
         have x3 := BV.out 3 _ rfl
         have fx3 := OV.out 3
         have x4 := BV.out 4 _ rfl
         have fx4 := OV.out 4
         have x5 := BV.out 5 _ rfl
         have fx5 := OV.out 5
         go_wp2
         have HE := hidI (blk6 BV.out (.bool false) (.int .i64 0) (.string ⟨#[]⟩) (.bool false) (.string ⟨#[]⟩) (.int .i64 0))
         have e0q := HE.out 0 _ rfl
         have e1q := HE.out 1 _ rfl
         have e2q := HE.out 2 _ rfl
         have e3q := HE.out 3 _ rfl
         have e4q := HE.out 4 _ rfl
         have e5q := HE.out 5 _ rfl
         refine bodyPost_ret (v := .tuple #[.agg #[.bool false, .int .i64 0, .string ⟨#[]⟩, .bool false, .string ⟨#[]⟩, .int .i64 0], .slice (some ⟨w.heap.size + 1 + 1 + 1 + 1, 0, none⟩) 0 0]) (by simp [results, Tryz.results8, go_sem, e0q, e1q, e2q, e3q, e4q, e5q]) rfl ⟨?_, ((((((hBV.setCell (by simp; omega) _).setCell (by simp; omega) _).setCell (by simp; omega) _).setCell (by simp; omega) _).setCell (by simp; omega) _).setCell (by simp; omega) _)⟩
         rw [anF_no HNO.out]
         exact ⟨_, rfl, own_low (own_setp (own_setp (own_setp (own_setp (own_setp (own_setp (own_below RW.out hUw5) (p := ⟨w.heap.size + 1 + 1 + 1, 0, none⟩) (.bool false) (by show w.heap.size + 1 + 1 + 1 < _; omega)) (p := ⟨w.heap.size + 1 + 1 + 1, 1, none⟩) (.int .i64 0) (by show w.heap.size + 1 + 1 + 1 < _; omega)) (p := ⟨w.heap.size + 1 + 1 + 1, 2, none⟩) (.string ⟨#[]⟩) (by show w.heap.size + 1 + 1 + 1 < _; omega)) (p := ⟨w.heap.size + 1 + 1 + 1, 3, none⟩) (.bool false) (by show w.heap.size + 1 + 1 + 1 < _; omega)) (p := ⟨w.heap.size + 1 + 1 + 1, 4, none⟩) (.string ⟨#[]⟩) (by show w.heap.size + 1 + 1 + 1 < _; omega)) (p := ⟨w.heap.size + 1 + 1 + 1, 5, none⟩) (.int .i64 0) (by show w.heap.size + 1 + 1 + 1 < _; omega)) (by omega)⟩
        | true =>
         have HY := hidI (HYE.out ⟨hq, hv⟩)
         clear HNX HYE hq hv
         go_wp2
         go_roundw
         case rel => exact ⟨k + 1, by omega, by go_num, hUw5, HY⟩
         case measure => simp [Go.RowKit.intOf]; omega
     · obtain rfl : k = ds.length := by omega
       have HALL : Hid (AllOk s fs m ds) := hidI ⟨HSO.out, HTO.out, HOM.out, hok.out⟩
       obtain ⟨ms, hpt⟩ := G.isPT_ex HTO.out
       have HPT := hidI hpt
       have HYE := hidI (anF_yes HALL.out hpt)
       clear hpt hok HDC
       obtain ⟨rb, ro, hrc⟩ := recs_some HAT.out.2
       have HRC := hidI hrc
       obtain ⟨tb, to, htc⟩ := strs_some HAT.out.1
       have HTC := hidI htc
       clear hrc htc
       go_wp2_with fail
       go_loopw [12] (fun i wr => ∃ (k : Nat), k ≤ s.rs.length ∧ i = .int .i64 k ∧ Below U0.heap.size U0 wr ∧ Hid (anF s fs m ds = recQ s.wd s.ts (sightF fs ms ds) ((s.rs.drop k).filter fun x => decide (x.key = keyR m)))) (fun i _ => s.rs.length - (Go.RowKit.intOf i).toNat)
       case atStart => exact ⟨0, Nat.zero_le _, rfl, hUwr, HYE⟩
       case round =>
        clear hUwr hBwr
        obtain ⟨k, hk, rfl, hUwr, HJ⟩ := hrel
        have hBwr : Below w.heap.size w wr := hBU0.trans (hUwr.mono hBU0.size)
        have szr := hUwr.size
        have c2 := (hUwr.cell (p := ⟨w.heap.size, 2, none⟩) (show w.heap.size < U0.heap.size by omega)).trans a2
        by_cases hlt : k < s.rs.length
        · rcases HRC.out with hss | ⟨ha, hbw, hcell⟩
          · rw [hss] at hlt; exact absurd hlt (Nat.not_lt_zero _)
          subst ha
          obtain ⟨gi, gc, y0, y1, y2, hgl⟩ := (hcell k hlt).below hbw hBwr
          have hyo := HSO.out.2.2.2 k hlt
          have hyl := HSL.out.2.2 k
          have HJ2 := HJ.out
          rw [drop_rec hlt] at HJ2
          generalize s.rs.getD k r3z = y at *
          have HYO := hidI hyo
          have HGL := hidI hgl
          have hyn := hyo.1.2.2
          have hyk := hyl.1
          have c0 := (hUwr.cell (p := ⟨w.heap.size, 0, none⟩) (show w.heap.size < U0.heap.size by omega)).trans a0
          have c1 := (hUwr.cell (p := ⟨w.heap.size, 1, none⟩) (show w.heap.size < U0.heap.size by omega)).trans a1
          have c3 := (hUwr.cell (p := ⟨w.heap.size + 1, 0, none⟩) (show w.heap.size + 1 < U0.heap.size by omega)).trans t0
          have c4 := (hUwr.cell (p := ⟨w.heap.size + 1 + 1, 1, none⟩) (show w.heap.size + 1 + 1 < U0.heap.size by omega)).trans m1
          have c5 := (hUwr.cell (p := ⟨w.heap.size + 1 + 1, 2, none⟩) (show w.heap.size + 1 + 1 < U0.heap.size by omega)).trans m2
          clear hcell hgl HJ hyo hyl
          by_cases hkey : y.key = keyR m
          · rw [List.filter_cons_of_pos (by simpa using hkey)] at HJ2
            have HJJ := hidI HJ2
            have hky : y.key = m.tl ++ ⟨#[32]⟩ ++ m.ar := hkey
            clear HJ2 hkey
            rw [hky] at y0
            have h33 := fun u (hu : Below wr.heap.size wr u) => c33 s ta (some ⟨rb, ro, none⟩) tc rc a cap fs ms y gi gc da dc ds u hfl HFS.out (G.T.files_below HFT.out (hBwr.trans (hu.mono hBwr.size))) HTO.out HPT.out (by omega) (gl_small HYO.out) (gls_below HGL.out hu) hdl HDS.out (G.deeds_below HDT.out (hBwr.trans (hu.mono hBwr.size)))
            rw [hky] at h33
            go_wp2_with fail
            refine wp_region_held_drew (S := (fun u => u.cell? ⟨w.heap.size, 2, none⟩ = some (.slice (some ⟨rb, ro, none⟩) s.rs.length rc) ∧ u.cell? ⟨rb, ro + k * 3, none⟩ = some (.string (m.tl ++ ⟨#[32]⟩ ++ m.ar)) ∧ u.cell? ⟨w.heap.size + 1 + 1, 1, none⟩ = some (.string m.tl) ∧ u.cell? ⟨w.heap.size + 1 + 1, 2, none⟩ = some (.string m.ar))) (by kernel_rfl) ?_ (fun hHeld => ?_)
            · exact ⟨c2, y0, c4, c5⟩
            refine tk (i := 0) (oi := ⟨some 66, .fieldAddr 45 (.tmp 4) 2, 0, _, _, none⟩) (v := ?_) rfl (by kernel_rfl) rfl ?e hHeld ?_
            case e => intro wq hSw; (try dsimp only at hSw); go_simp; try with_reducible rfl
            try simp only [qq]
            refine tk (i := 1) (oi := ⟨some 67, .load 43 (.tmp 66), 43, _, _, none⟩) (v := ?_) rfl (by kernel_rfl) rfl ?e hHeld ?_
            case e => intro wq hSw; (try dsimp only at hSw); go_simp; try with_reducible rfl
            try simp only [qq]
            refine tk (i := 2) (oi := ⟨some 68, .move (.tmp 12), 3, _, _, none⟩) (v := ?_) rfl (by kernel_rfl) rfl ?e hHeld ?_
            case e => intro wq hSw; (try dsimp only at hSw); go_simp; try with_reducible rfl
            try simp only [qq]
            refine tk (i := 3) (oi := ⟨some 69, .indexAddr 43 (.tmp 67) (.tmp 68), 0, _, _, none⟩) (v := ?_) rfl (by kernel_rfl) rfl ?e hHeld ?_
            case e => intro wq hSw; (try dsimp only at hSw); go_simp; try with_reducible rfl
            try simp only [qq]
            refine tk (i := 4) (oi := ⟨some 70, .fieldAddr 82 (.tmp 69) 0, 0, _, _, none⟩) (v := ?_) rfl (by kernel_rfl) rfl ?e hHeld ?_
            case e => intro wq hSw; (try dsimp only at hSw); go_simp; try with_reducible rfl
            try simp only [qq]
            refine tk (i := 5) (oi := ⟨some 71, .load 9 (.tmp 70), 9, _, _, none⟩) (v := ?_) rfl (by kernel_rfl) rfl ?e hHeld ?_
            case e => intro wq hSw; (try dsimp only at hSw); go_simp; try with_reducible rfl
            try simp only [qq]
            refine tk (i := 6) (oi := ⟨some 72, .fieldAddr 51 (.tmp 6) 1, 0, _, _, none⟩) (v := ?_) rfl (by kernel_rfl) rfl ?e hHeld ?_
            case e => intro wq hSw; (try dsimp only at hSw); go_simp; try with_reducible rfl
            try simp only [qq]
            refine tk (i := 7) (oi := ⟨some 73, .load 9 (.tmp 72), 9, _, _, none⟩) (v := ?_) rfl (by kernel_rfl) rfl ?e hHeld ?_
            case e => intro wq hSw; (try dsimp only at hSw); go_simp; try with_reducible rfl
            try simp only [qq]
            refine tk (i := 8) (oi := ⟨some 74, .binOp .add 9 (.tmp 73) (.const (.string { data := #[32] })) 9, 9, _, _, none⟩) (v := ?_) rfl (by kernel_rfl) rfl ?e hHeld ?_
            case e => intro wq hSw; (try dsimp only at hSw); go_simp; try rw [if_neg (by omega)]; try with_reducible rfl
            try simp only [qq]
            refine tk (i := 9) (oi := ⟨some 75, .fieldAddr 51 (.tmp 6) 2, 0, _, _, none⟩) (v := ?_) rfl (by kernel_rfl) rfl ?e hHeld ?_
            case e => intro wq hSw; (try dsimp only at hSw); go_simp; try with_reducible rfl
            try simp only [qq]
            refine tk (i := 10) (oi := ⟨some 76, .load 9 (.tmp 75), 9, _, _, none⟩) (v := ?_) rfl (by kernel_rfl) rfl ?e hHeld ?_
            case e => intro wq hSw; (try dsimp only at hSw); go_simp; try with_reducible rfl
            try simp only [qq]
            refine tk (i := 11) (oi := ⟨some 77, .binOp .add 9 (.tmp 74) (.tmp 76) 9, 9, _, _, none⟩) (v := ?_) rfl (by kernel_rfl) rfl ?e hHeld ?_
            case e => intro wq hSw; (try dsimp only at hSw); go_simp; try rw [if_neg (by omega)]; try with_reducible rfl
            try simp only [qq]
            refine tk (i := 12) (oi := ⟨some 78, .binOp .neq 9 (.tmp 71) (.tmp 77) 9, 4, _, _, none⟩) (v := ?_) rfl (by kernel_rfl) rfl ?e hHeld ?_
            case e => intro wq hSw; (try dsimp only at hSw); go_simp; try with_reducible rfl
            try simp only [qq]
            refine wpAnyH_done (by kernel_rfl) ?_ _
            clear hHeld
            go_wp2_with fail
            refine wp_region_held_drew (S := (fun u => (u.cell? ⟨w.heap.size, 0, none⟩ = some (.int .i64 s.wd) ∧ u.cell? ⟨w.heap.size, 1, none⟩ = some (.slice ta s.ts.length tc) ∧ u.cell? ⟨w.heap.size, 2, none⟩ = some (.slice (some ⟨rb, ro, none⟩) s.rs.length rc)) ∧ u.cell? ⟨w.heap.size + 1, 0, none⟩ = some (.slice a fs.length cap) ∧ u.cell? ⟨rb, ro + k * 3, none⟩ = some (.string (m.tl ++ ⟨#[32]⟩ ++ m.ar)) ∧ u.cell? ⟨rb, ro + k * 3 + 1, none⟩ = some (.slice gi y.gs.length gc) ∧ u.cell? ⟨rb, ro + k * 3 + 2, none⟩ = some (.string y.out))) (by kernel_rfl) ?_ (fun hHeld => ?_)
            · exact ⟨⟨c0, c1, c2⟩, c3, y0, y1, y2⟩
            refine tk (i := 0) (oi := ⟨some 80, .load 45 (.tmp 4), 45, _, _, none⟩) (v := ?_) rfl (by kernel_rfl) rfl ?e hHeld ?_
            case e => intro wq hSw; (try dsimp only at hSw); go_simp; try with_reducible rfl
            try simp only [qq]
            refine tk (i := 1) (oi := ⟨some 81, .load 49 (.tmp 5), 49, _, _, none⟩) (v := ?_) rfl (by kernel_rfl) rfl ?e hHeld ?_
            case e => intro wq hSw; (try dsimp only at hSw); go_simp; try with_reducible rfl
            try simp only [qq]
            refine tk (i := 2) (oi := ⟨some 82, .fieldAddr 45 (.tmp 4) 2, 0, _, _, none⟩) (v := ?_) rfl (by kernel_rfl) rfl ?e hHeld ?_
            case e => intro wq hSw; (try dsimp only at hSw); go_simp; try with_reducible rfl
            try simp only [qq]
            refine tk (i := 3) (oi := ⟨some 83, .load 43 (.tmp 82), 43, _, _, none⟩) (v := ?_) rfl (by kernel_rfl) rfl ?e hHeld ?_
            case e => intro wq hSw; (try dsimp only at hSw); go_simp; try with_reducible rfl
            try simp only [qq]
            refine tk (i := 4) (oi := ⟨some 84, .move (.tmp 12), 3, _, _, none⟩) (v := ?_) rfl (by kernel_rfl) rfl ?e hHeld ?_
            case e => intro wq hSw; (try dsimp only at hSw); go_simp; try with_reducible rfl
            try simp only [qq]
            refine tk (i := 5) (oi := ⟨some 85, .indexAddr 43 (.tmp 83) (.tmp 84), 0, _, _, none⟩) (v := ?_) rfl (by kernel_rfl) rfl ?e hHeld ?_
            case e => intro wq hSw; (try dsimp only at hSw); go_simp; try with_reducible rfl
            try simp only [qq]
            refine tk (i := 6) (oi := ⟨some 86, .load 82 (.tmp 85), 82, _, _, none⟩) (v := ?_) rfl (by kernel_rfl) rfl ?e hHeld ?_
            case e => intro wq hSw; (try dsimp only at hSw); go_simp; try with_reducible rfl
            try simp only [qq]
            refine tk (i := 7) (oi := ⟨some 87, .move (.tmp 3), 53, _, _, none⟩) (v := ?_) rfl (by kernel_rfl) rfl ?e hHeld ?_
            case e => intro wq hSw; (try dsimp only at hSw); go_simp; try with_reducible rfl
            try simp only [qq]
            refine rd (i := 8) (o := ⟨some 88, .call ⟨.value (.func 33), #[.tmp 80, .tmp 81, .tmp 86, .tmp 87], #[45, 49, 82, 53]⟩, 83, _, _, none⟩) rfl (by kernel_rfl) (fun K hK => ?_)
            go_simp
            refine (h33 _ (Below.refl _ _).drew.drew).mono ?_
            rintro e w6 ⟨he, hb60⟩
            obtain ⟨v9, st9, b9, rfl, hr9⟩ := is33_form he
            clear he
            have hb6 := (Below.refl wr.heap.size wr).drew.drew.trans hb60
            go_wp2_with fail
            have hUw6 : Below U0.heap.size U0 w6 := hUwr.trans (hb6.mono hUwr.size)
            have hBw6 : Below w.heap.size w w6 := hBU0.trans (hUw6.mono hBU0.size)
            have sz6 := hb6.size
            clear hHeld
            refine hK.out _ _ ⟨⟨(hb6.cell (p := ⟨w.heap.size, 0, none⟩) (show w.heap.size < wr.heap.size by omega)).trans c0, (hb6.cell (p := ⟨w.heap.size, 1, none⟩) (show w.heap.size < wr.heap.size by omega)).trans c1, (hb6.cell (p := ⟨w.heap.size, 2, none⟩) (show w.heap.size < wr.heap.size by omega)).trans c2⟩, (hb6.cell (p := ⟨w.heap.size + 1, 0, none⟩) (show w.heap.size + 1 < wr.heap.size by omega)).trans c3, (hb6.cell (p := ⟨rb, ro + k * 3, none⟩) (show rb < wr.heap.size by omega)).trans y0, (hb6.cell (p := ⟨rb, ro + k * 3 + 1, none⟩) (show rb < wr.heap.size by omega)).trans y1, (hb6.cell (p := ⟨rb, ro + k * 3 + 2, none⟩) (show rb < wr.heap.size by omega)).trans y2⟩ (fun hHeld => ?_)
            clear hK K h33
            rcases hr9 with ⟨hq, rfl, rfl⟩ | ⟨ls, o, av, cv, hq, rfl, rfl, rfl, hown⟩
            · try simp only [qq]
              have HN := hidI (HJJ.out.trans (recQ_none hq))
              clear HJJ hq
              refine tk (i := 9) (oi := ⟨some 79, .move (.tmp 88), 83, _, _, none⟩) (v := ?_) rfl (by kernel_rfl) rfl ?e hHeld ?_
              case e => intro wq hSw; (try dsimp only at hSw); go_simp; try with_reducible rfl
              try simp only [qq]
              refine tk (i := 10) (oi := ⟨some 89, .extract (.tmp 79) 0, 40, _, _, none⟩) (v := ?_) rfl (by kernel_rfl) rfl ?e hHeld ?_
              case e => intro wq hSw; (try dsimp only at hSw); go_simp; try with_reducible rfl
              try simp only [qq]
              refine tk (i := 11) (oi := ⟨some 90, .extract (.tmp 79) 1, 9, _, _, none⟩) (v := ?_) rfl (by kernel_rfl) rfl ?e hHeld ?_
              case e => intro wq hSw; (try dsimp only at hSw); go_simp; try with_reducible rfl
              try simp only [qq]
              refine tk (i := 12) (oi := ⟨some 91, .extract (.tmp 79) 2, 4, _, _, none⟩) (v := ?_) rfl (by kernel_rfl) rfl ?e hHeld ?_
              case e => intro wq hSw; (try dsimp only at hSw); go_simp; try with_reducible rfl
              try simp only [qq]
              refine tk (i := 13) (oi := ⟨some 13, .assign (.tmp 89), 40, _, _, none⟩) (v := ?_) rfl (by kernel_rfl) rfl ?e hHeld ?_
              case e => intro wq hSw; (try dsimp only at hSw); go_simp; try with_reducible rfl
              try simp only [qq]
              refine tk (i := 14) (oi := ⟨some 14, .assign (.tmp 90), 9, _, _, none⟩) (v := ?_) rfl (by kernel_rfl) rfl ?e hHeld ?_
              case e => intro wq hSw; (try dsimp only at hSw); go_simp; try with_reducible rfl
              try simp only [qq]
              refine tk (i := 15) (oi := ⟨some 15, .assign (.tmp 91), 4, _, _, none⟩) (v := ?_) rfl (by kernel_rfl) rfl ?e hHeld ?_
              case e => intro wq hSw; (try dsimp only at hSw); go_simp; try with_reducible rfl
              try simp only [qq]
              refine wpAnyH_done (by kernel_rfl) ?_ _
              clear hHeld
              go_wp2
              go_roundw
              case rel => exact ⟨k + 1, by omega, by go_num, hUw6, HN⟩
              case measure => simp [Go.RowKit.intOf]; omega
            · try simp only [qq]
              have HOW := hidI hown
              have hsw : wr.heap.size ≤ wr.drew.drew.heap.size := Nat.le_refl _
              clear hown
              cases o with
              | some nm =>
               have hnn := emp_no (tryK_name _ _ (gl_names HYO.out) hq)
               have HN := hidI (HJJ.out.trans (recQ_wait hq))
               clear HJJ hq
               simp only [Option.getD_some]
               refine tk (i := 9) (oi := ⟨some 79, .move (.tmp 88), 83, _, _, none⟩) (v := ?_) rfl (by kernel_rfl) rfl ?e hHeld ?_
               case e => intro wq hSw; (try dsimp only at hSw); go_simp; try with_reducible rfl
               try simp only [qq]
               refine tk (i := 10) (oi := ⟨some 89, .extract (.tmp 79) 0, 40, _, _, none⟩) (v := ?_) rfl (by kernel_rfl) rfl ?e hHeld ?_
               case e => intro wq hSw; (try dsimp only at hSw); go_simp; try with_reducible rfl
               try simp only [qq]
               refine tk (i := 11) (oi := ⟨some 90, .extract (.tmp 79) 1, 9, _, _, none⟩) (v := ?_) rfl (by kernel_rfl) rfl ?e hHeld ?_
               case e => intro wq hSw; (try dsimp only at hSw); go_simp; try with_reducible rfl
               try simp only [qq]
               refine tk (i := 12) (oi := ⟨some 91, .extract (.tmp 79) 2, 4, _, _, none⟩) (v := ?_) rfl (by kernel_rfl) rfl ?e hHeld ?_
               case e => intro wq hSw; (try dsimp only at hSw); go_simp; try with_reducible rfl
               try simp only [qq]
               refine tk (i := 13) (oi := ⟨some 13, .assign (.tmp 89), 40, _, _, none⟩) (v := ?_) rfl (by kernel_rfl) rfl ?e hHeld ?_
               case e => intro wq hSw; (try dsimp only at hSw); go_simp; try with_reducible rfl
               try simp only [qq]
               refine tk (i := 14) (oi := ⟨some 14, .assign (.tmp 90), 9, _, _, none⟩) (v := ?_) rfl (by kernel_rfl) rfl ?e hHeld ?_
               case e => intro wq hSw; (try dsimp only at hSw); go_simp; try with_reducible rfl
               try simp only [qq]
               refine tk (i := 15) (oi := ⟨some 15, .assign (.tmp 91), 4, _, _, none⟩) (v := ?_) rfl (by kernel_rfl) rfl ?e hHeld ?_
               case e => intro wq hSw; (try dsimp only at hSw); go_simp; try with_reducible rfl
               try simp only [qq]
               refine wpAnyH_done (by kernel_rfl) ?_ _
               clear hHeld
               have BV := hidI (B6.out.below hUw6 (by omega))
               have OV := hidI (O6.out.below hUw6 (by omega))
               have hBV := hBw6
               have x0 := BV.out 0 _ rfl
               have fx0 := OV.out 0
               have x1 := BV.out 1 _ rfl
               have fx1 := OV.out 1
               have x2 := BV.out 2 _ rfl
               have fx2 := OV.out 2
               have x3 := BV.out 3 _ rfl
               have fx3 := OV.out 3
               have x4 := BV.out 4 _ rfl
               have fx4 := OV.out 4
               have x5 := BV.out 5 _ rfl
               have fx5 := OV.out 5
               go_wp2
               have HE := hidI (blk6 BV.out (.bool false) (.int .i64 0) (.string ⟨#[]⟩) (.bool false) (.string nm) (.int .i64 0))
               have e0q := HE.out 0 _ rfl
               have e1q := HE.out 1 _ rfl
               have e2q := HE.out 2 _ rfl
               have e3q := HE.out 3 _ rfl
               have e4q := HE.out 4 _ rfl
               have e5q := HE.out 5 _ rfl
               refine bodyPost_ret (v := .tuple #[.agg #[.bool false, .int .i64 0, .string ⟨#[]⟩, .bool false, .string nm, .int .i64 0], .slice av ls.length cv]) (by simp [results, Tryz.results8, go_sem, e0q, e1q, e2q, e3q, e4q, e5q]) rfl ⟨?_, ((((((hBV.setCell (by simp; omega) _).setCell (by simp; omega) _).setCell (by simp; omega) _).setCell (by simp; omega) _).setCell (by simp; omega) _).setCell (by simp; omega) _)⟩
               rw [HN.out]
               exact ⟨_, rfl, own_low (own_setp (own_setp (own_setp (own_setp (own_setp (own_setp HOW.out (p := ⟨w.heap.size + 1 + 1 + 1, 0, none⟩) (.bool false) (by show w.heap.size + 1 + 1 + 1 < _; omega)) (p := ⟨w.heap.size + 1 + 1 + 1, 1, none⟩) (.int .i64 0) (by show w.heap.size + 1 + 1 + 1 < _; omega)) (p := ⟨w.heap.size + 1 + 1 + 1, 2, none⟩) (.string ⟨#[]⟩) (by show w.heap.size + 1 + 1 + 1 < _; omega)) (p := ⟨w.heap.size + 1 + 1 + 1, 3, none⟩) (.bool false) (by show w.heap.size + 1 + 1 + 1 < _; omega)) (p := ⟨w.heap.size + 1 + 1 + 1, 4, none⟩) (.string nm) (by show w.heap.size + 1 + 1 + 1 < _; omega)) (p := ⟨w.heap.size + 1 + 1 + 1, 5, none⟩) (.int .i64 0) (by show w.heap.size + 1 + 1 + 1 < _; omega)) (by omega)⟩
              | none =>
               simp only [Option.getD_none]
               have HTK := hidI hq
               clear hq
               refine tk (i := 9) (oi := ⟨some 79, .move (.tmp 88), 83, _, _, none⟩) (v := ?_) rfl (by kernel_rfl) rfl ?e hHeld ?_
               case e => intro wq hSw; (try dsimp only at hSw); go_simp; try with_reducible rfl
               try simp only [qq]
               refine tk (i := 10) (oi := ⟨some 89, .extract (.tmp 79) 0, 40, _, _, none⟩) (v := ?_) rfl (by kernel_rfl) rfl ?e hHeld ?_
               case e => intro wq hSw; (try dsimp only at hSw); go_simp; try with_reducible rfl
               try simp only [qq]
               refine tk (i := 11) (oi := ⟨some 90, .extract (.tmp 79) 1, 9, _, _, none⟩) (v := ?_) rfl (by kernel_rfl) rfl ?e hHeld ?_
               case e => intro wq hSw; (try dsimp only at hSw); go_simp; try with_reducible rfl
               try simp only [qq]
               refine tk (i := 12) (oi := ⟨some 91, .extract (.tmp 79) 2, 4, _, _, none⟩) (v := ?_) rfl (by kernel_rfl) rfl ?e hHeld ?_
               case e => intro wq hSw; (try dsimp only at hSw); go_simp; try with_reducible rfl
               try simp only [qq]
               refine tk (i := 13) (oi := ⟨some 13, .assign (.tmp 89), 40, _, _, none⟩) (v := ?_) rfl (by kernel_rfl) rfl ?e hHeld ?_
               case e => intro wq hSw; (try dsimp only at hSw); go_simp; try with_reducible rfl
               try simp only [qq]
               refine tk (i := 14) (oi := ⟨some 14, .assign (.tmp 90), 9, _, _, none⟩) (v := ?_) rfl (by kernel_rfl) rfl ?e hHeld ?_
               case e => intro wq hSw; (try dsimp only at hSw); go_simp; try with_reducible rfl
               try simp only [qq]
               refine tk (i := 15) (oi := ⟨some 15, .assign (.tmp 91), 4, _, _, none⟩) (v := ?_) rfl (by kernel_rfl) rfl ?e hHeld ?_
               case e => intro wq hSw; (try dsimp only at hSw); go_simp; try with_reducible rfl
               try simp only [qq]
               refine wpAnyH_done (by kernel_rfl) ?_ _
               clear hHeld
               have sz6' := hUw6.size
               replace y2 := (hb6.cell (p := ⟨rb, ro + k * 3 + 2, none⟩) (show rb < wr.heap.size by omega)).trans y2
               clear y0 y1 c0 c1 c2 c3 c4 c5 hb6
               go_wp2_with fail
               go_loopw [16] (fun i wr => ∃ (j : Nat), j ≤ s.ts.length ∧ i = .int .i64 j ∧ Below w6.heap.size w6 wr ∧ Hid (∀ i, i < j → ¬ sumS (s.ts.getD i ByteArray.empty) s.wd = y.out)) (fun i _ => s.ts.length - (Go.RowKit.intOf i).toNat)
               case atStart => exact ⟨0, Nat.zero_le _, rfl, Below.refl _ _, fun i h => absurd h (Nat.not_lt_zero _)⟩
               case round =>
                obtain ⟨j, hj, rfl, hb6t, HJT⟩ := hrel
                have hUwt : Below U0.heap.size U0 wr := hUw6.trans (hb6t.mono hUw6.size)
                have hBwt : Below w.heap.size w wr := hBU0.trans (hUwt.mono hBU0.size)
                have szt := hUwt.size
                have szt6 := hb6t.size
                have c1 := (hUwt.cell (p := ⟨w.heap.size, 1, none⟩) (show w.heap.size < U0.heap.size by omega)).trans a1
                by_cases hjt : j < s.ts.length
                · rcases HTC.out with hss | ⟨ha, htbw, htcell⟩
                  · rw [hss] at hjt; exact absurd hjt (Nat.not_lt_zero _)
                  subst ha
                  have z0 := (hBwt.cell (p := ⟨tb, to + j, none⟩) htbw).trans (htcell j hjt)
                  have htz := HSL.out.1.2 j
                  obtain ⟨rc', rt', hir⟩ := (HSO.out.2.1.2 j hjt).1
                  have HFA := hidI (find_at s.ts s.wd y.out j hjt HJT.out)
                  have HNX : Hid (¬ sumS (s.ts.getD j ByteArray.empty) s.wd = y.out → ∀ i, i < j + 1 → ¬ sumS (s.ts.getD i ByteArray.empty) s.wd = y.out) := hidI (fun h i hi => by
                   by_cases e : i = j
                   · subst e; exact h
                   · exact HJT.out i (by omega))
                  generalize s.ts.getD j ByteArray.empty = tt at *
                  have HIR := hidI hir
                  have c0 := (hUwt.cell (p := ⟨w.heap.size, 0, none⟩) (show w.heap.size < U0.heap.size by omega)).trans a0
                  have c2 := (hUwt.cell (p := ⟨w.heap.size, 2, none⟩) (show w.heap.size < U0.heap.size by omega)).trans a2
                  replace y2 := (hb6t.cell (p := ⟨rb, ro + k * 3 + 2, none⟩) (show rb < w6.heap.size by omega)).trans y2
                  clear htcell hir HJT
                  go_wp2_with fail
                  refine wp_region_held_drew (S := (fun u => (u.cell? ⟨w.heap.size, 0, none⟩ = some (.int .i64 s.wd) ∧ u.cell? ⟨w.heap.size, 1, none⟩ = some (.slice (some ⟨tb, to, none⟩) s.ts.length tc) ∧ u.cell? ⟨w.heap.size, 2, none⟩ = some (.slice (some ⟨rb, ro, none⟩) s.rs.length rc)) ∧ u.cell? ⟨tb, to + j, none⟩ = some (.string tt) ∧ u.cell? ⟨rb, ro + k * 3 + 2, none⟩ = some (.string y.out))) (by kernel_rfl) ?_ (fun hHeld => ?_)
                  · exact ⟨⟨c0, c1, c2⟩, z0, y2⟩
                  refine tk (i := 0) (oi := ⟨some 106, .fieldAddr 45 (.tmp 4) 1, 0, _, _, none⟩) (v := ?_) rfl (by kernel_rfl) rfl ?e hHeld ?_
                  case e => intro wq hSw; (try dsimp only at hSw); go_simp; try with_reducible rfl
                  try simp only [qq]
                  refine tk (i := 1) (oi := ⟨some 107, .load 22 (.tmp 106), 22, _, _, none⟩) (v := ?_) rfl (by kernel_rfl) rfl ?e hHeld ?_
                  case e => intro wq hSw; (try dsimp only at hSw); go_simp; try with_reducible rfl
                  try simp only [qq]
                  refine tk (i := 2) (oi := ⟨some 108, .move (.tmp 16), 3, _, _, none⟩) (v := ?_) rfl (by kernel_rfl) rfl ?e hHeld ?_
                  case e => intro wq hSw; (try dsimp only at hSw); go_simp; try with_reducible rfl
                  try simp only [qq]
                  refine tk (i := 3) (oi := ⟨some 109, .indexAddr 22 (.tmp 107) (.tmp 108), 0, _, _, none⟩) (v := ?_) rfl (by kernel_rfl) rfl ?e hHeld ?_
                  case e => intro wq hSw; (try dsimp only at hSw); go_simp; try with_reducible rfl
                  try simp only [qq]
                  refine tk (i := 4) (oi := ⟨some 110, .load 9 (.tmp 109), 9, _, _, none⟩) (v := ?_) rfl (by kernel_rfl) rfl ?e hHeld ?_
                  case e => intro wq hSw; (try dsimp only at hSw); go_simp; try with_reducible rfl
                  try simp only [qq]
                  refine tk (i := 5) (oi := ⟨some 111, .fieldAddr 45 (.tmp 4) 0, 0, _, _, none⟩) (v := ?_) rfl (by kernel_rfl) rfl ?e hHeld ?_
                  case e => intro wq hSw; (try dsimp only at hSw); go_simp; try with_reducible rfl
                  try simp only [qq]
                  refine tk (i := 6) (oi := ⟨some 112, .load 3 (.tmp 111), 3, _, _, none⟩) (v := ?_) rfl (by kernel_rfl) rfl ?e hHeld ?_
                  case e => intro wq hSw; (try dsimp only at hSw); go_simp; try with_reducible rfl
                  try simp only [qq]
                  refine tk (i := 8) (oi := ⟨some 114, .fieldAddr 45 (.tmp 4) 2, 0, _, _, none⟩) (v := ?_) rfl (by kernel_rfl) rfl ?e hHeld ?_
                  case e => intro wq hSw; (try dsimp only at hSw); go_simp; try with_reducible rfl
                  try simp only [qq]
                  refine tk (i := 9) (oi := ⟨some 115, .load 43 (.tmp 114), 43, _, _, none⟩) (v := ?_) rfl (by kernel_rfl) rfl ?e hHeld ?_
                  case e => intro wq hSw; (try dsimp only at hSw); go_simp; try with_reducible rfl
                  try simp only [qq]
                  refine tk (i := 10) (oi := ⟨some 116, .move (.tmp 12), 3, _, _, none⟩) (v := ?_) rfl (by kernel_rfl) rfl ?e hHeld ?_
                  case e => intro wq hSw; (try dsimp only at hSw); go_simp; try with_reducible rfl
                  try simp only [qq]
                  refine tk (i := 11) (oi := ⟨some 117, .indexAddr 43 (.tmp 115) (.tmp 116), 0, _, _, none⟩) (v := ?_) rfl (by kernel_rfl) rfl ?e hHeld ?_
                  case e => intro wq hSw; (try dsimp only at hSw); go_simp; try with_reducible rfl
                  try simp only [qq]
                  refine tk (i := 12) (oi := ⟨some 118, .fieldAddr 82 (.tmp 117) 2, 0, _, _, none⟩) (v := ?_) rfl (by kernel_rfl) rfl ?e hHeld ?_
                  case e => intro wq hSw; (try dsimp only at hSw); go_simp; try with_reducible rfl
                  try simp only [qq]
                  refine tk (i := 13) (oi := ⟨some 119, .load 9 (.tmp 118), 9, _, _, none⟩) (v := ?_) rfl (by kernel_rfl) rfl ?e hHeld ?_
                  case e => intro wq hSw; (try dsimp only at hSw); go_simp; try with_reducible rfl
                  try simp only [qq]
                  refine rd (i := 7) (o := ⟨some 113, .call ⟨.value (.func 34), #[.tmp 110, .tmp 112], #[9, 3]⟩, 9, _, _, none⟩) rfl (by kernel_rfl) (fun K hK => ?_)
                  go_simp
                  refine (c34 tt s.wd _ (by omega)).mono ?_
                  rintro e w7 ⟨rfl, hb70⟩
                  have hb7 := (Below.refl wr.heap.size wr).drew.trans hb70
                  go_wp2_with fail
                  clear hHeld
                  refine hK.out _ _ ⟨⟨(hb7.cell (p := ⟨w.heap.size, 0, none⟩) (show w.heap.size < wr.heap.size by omega)).trans c0, (hb7.cell (p := ⟨w.heap.size, 1, none⟩) (show w.heap.size < wr.heap.size by omega)).trans c1, (hb7.cell (p := ⟨w.heap.size, 2, none⟩) (show w.heap.size < wr.heap.size by omega)).trans c2⟩, (hb7.cell (p := ⟨tb, to + j, none⟩) (show tb < wr.heap.size by omega)).trans z0, (hb7.cell (p := ⟨rb, ro + k * 3 + 2, none⟩) (show rb < wr.heap.size by omega)).trans y2⟩ (fun hHeld => ?_)
                  clear hK K
                  try simp only [qq]
                  have hUw7 : Below U0.heap.size U0 w7 := hUwt.trans (hb7.mono hUwt.size)
                  have hBw7 : Below w.heap.size w w7 := hBU0.trans (hUw7.mono hBU0.size)
                  have sz7 := hb7.size
                  by_cases hsm : sumS tt s.wd = y.out
                  · have HN := hidI (HJJ.out.trans (recQ_over HTK.out (HFA.out hsm)))
                    rw [hsm]
                    clear HFA HNX HJJ hsm
                    refine tk (i := 14) (oi := ⟨some 120, .binOp .eql 9 (.tmp 113) (.tmp 119) 9, 4, _, _, none⟩) (v := ?_) rfl (by kernel_rfl) rfl ?e hHeld ?_
                    case e => intro wq hSw; (try dsimp only at hSw); go_simp; try with_reducible rfl
                    try simp only [qq]
                    refine wpAnyH_done (by kernel_rfl) ?_ _
                    clear hHeld
                    replace z0 := (hb7.cell (p := ⟨tb, to + j, none⟩) (show tb < wr.heap.size by omega)).trans z0
                    replace c1 := (hb7.cell (p := ⟨w.heap.size, 1, none⟩) (show w.heap.size < wr.heap.size by omega)).trans c1
                    go_wp2_with fail
                    refine (c35k w7 (by omega) HIR.out).mono ?_
                    rintro e w8 ⟨rfl, hb8⟩
                    generalize hC tt = C1 at *
                    generalize hT tt = T2 at *
                    have b9 : Below w8.heap.size w8 (w8.alloc (.cells #[.int .i64 C1, .string T2] 37)) := (Below.refl _ _).alloc (Nat.le_refl _) _
                    have E9 := blk_new w8 [.int .i64 C1, .string T2] 37
                    have v0 := E9 0 _ rfl
                    have v1 := E9 1 _ rfl
                    have k89 : Below w7.heap.size w7 (w8.alloc (.cells #[.int .i64 C1, .string T2] 37)) := hb8.trans (b9.mono hb8.size)
                    have hUw9 : Below U0.heap.size U0 (w8.alloc (.cells #[.int .i64 C1, .string T2] 37)) := hUw7.trans (k89.mono hUw7.size)
                    have hBw9 : Below w.heap.size w (w8.alloc (.cells #[.int .i64 C1, .string T2] 37)) := hBU0.trans (hUw9.mono hBU0.size)
                    have HLE := hidI (own_below (own_below HOW.out (hb6t.trans (hb7.mono hb6t.size))) k89)
                    clear E9 b9 k89 hb8 z0 c0 c1 c2 y2
                    have BV := hidI (B6.out.below hUw9 (by omega))
                    have OV := hidI (O6.out.below hUw9 (by omega))
                    have hBV := hBw9
                    have x0 := BV.out 0 _ rfl
                    have fx0 := OV.out 0
                    have x1 := BV.out 1 _ rfl
                    have fx1 := OV.out 1
                    have x2 := BV.out 2 _ rfl
                    have fx2 := OV.out 2
                    have x3 := BV.out 3 _ rfl
                    have fx3 := OV.out 3
                    have x4 := BV.out 4 _ rfl
                    have fx4 := OV.out 4
                    have x5 := BV.out 5 _ rfl
                    have fx5 := OV.out 5
                    go_wp2
                    have HE := hidI (blk6 BV.out (.bool true) (.int .i64 C1) (.string T2) (.bool false) (.string ⟨#[]⟩) (.int .i64 0))
                    have e0q := HE.out 0 _ rfl
                    have e1q := HE.out 1 _ rfl
                    have e2q := HE.out 2 _ rfl
                    have e3q := HE.out 3 _ rfl
                    have e4q := HE.out 4 _ rfl
                    have e5q := HE.out 5 _ rfl
                    refine bodyPost_ret (v := .tuple #[.agg #[.bool true, .int .i64 C1, .string T2, .bool false, .string ⟨#[]⟩, .int .i64 0], .slice av ls.length cv]) (by simp [results, Tryz.results8, go_sem, e0q, e1q, e2q, e3q, e4q, e5q]) rfl ⟨?_, ((((((hBV.setCell (by simp; omega) _).setCell (by simp; omega) _).setCell (by simp; omega) _).setCell (by simp; omega) _).setCell (by simp; omega) _).setCell (by simp; omega) _)⟩
                    rw [HN.out]
                    exact ⟨_, rfl, own_low (own_setp (own_setp (own_setp (own_setp (own_setp (own_setp HLE.out (p := ⟨w.heap.size + 1 + 1 + 1, 0, none⟩) (.bool true) (by show w.heap.size + 1 + 1 + 1 < _; omega)) (p := ⟨w.heap.size + 1 + 1 + 1, 1, none⟩) (.int .i64 C1) (by show w.heap.size + 1 + 1 + 1 < _; omega)) (p := ⟨w.heap.size + 1 + 1 + 1, 2, none⟩) (.string T2) (by show w.heap.size + 1 + 1 + 1 < _; omega)) (p := ⟨w.heap.size + 1 + 1 + 1, 3, none⟩) (.bool false) (by show w.heap.size + 1 + 1 + 1 < _; omega)) (p := ⟨w.heap.size + 1 + 1 + 1, 4, none⟩) (.string ⟨#[]⟩) (by show w.heap.size + 1 + 1 + 1 < _; omega)) (p := ⟨w.heap.size + 1 + 1 + 1, 5, none⟩) (.int .i64 0) (by show w.heap.size + 1 + 1 + 1 < _; omega)) (by omega)⟩
                  · have HNN := hidI (HNX.out hsm)
                    have hsm' := G.beq_no hsm
                    clear HFA HNX hsm
                    generalize sumS tt s.wd = sm at *
                    refine tk (i := 14) (oi := ⟨some 120, .binOp .eql 9 (.tmp 113) (.tmp 119) 9, 4, _, _, none⟩) (v := ?_) rfl (by kernel_rfl) rfl ?e hHeld ?_
                    case e => intro wq hSw; (try dsimp only at hSw); go_simp; try with_reducible rfl
                    try simp only [qq]
                    refine wpAnyH_done (by kernel_rfl) ?_ _
                    clear hHeld
                    go_wp2
                    go_roundw
                    case rel => exact ⟨j + 1, by omega, by go_num, hb6t.trans (hb7.mono hb6t.size), HNN⟩
                    case measure => simp [Go.RowKit.intOf]; omega
                · have HN := hidI (HJJ.out.trans (recQ_gone HTK.out (find_none s.ts s.wd y.out (fun i hi => HJT.out i (by omega)))))
                  clear HJT HJJ
                  go_wp2
                  go_roundw
                  case rel => exact ⟨k + 1, by omega, by go_num, hUwt, HN⟩
                  case measure => simp [Go.RowKit.intOf]; omega
          · rw [List.filter_cons_of_neg (by simpa using hkey)] at HJ2
            have HN := hidI HJ2
            have hky := G.beq_no (show ¬ y.key = m.tl ++ ⟨#[32]⟩ ++ m.ar from hkey)
            clear HJ2 hkey
            go_wp2_with fail
            refine wp_region_held_drew (S := (fun u => u.cell? ⟨w.heap.size, 2, none⟩ = some (.slice (some ⟨rb, ro, none⟩) s.rs.length rc) ∧ u.cell? ⟨rb, ro + k * 3, none⟩ = some (.string y.key) ∧ u.cell? ⟨w.heap.size + 1 + 1, 1, none⟩ = some (.string m.tl) ∧ u.cell? ⟨w.heap.size + 1 + 1, 2, none⟩ = some (.string m.ar))) (by kernel_rfl) ?_ (fun hHeld => ?_)
            · exact ⟨c2, y0, c4, c5⟩
            refine tk (i := 0) (oi := ⟨some 66, .fieldAddr 45 (.tmp 4) 2, 0, _, _, none⟩) (v := ?_) rfl (by kernel_rfl) rfl ?e hHeld ?_
            case e => intro wq hSw; (try dsimp only at hSw); go_simp; try with_reducible rfl
            try simp only [qq]
            refine tk (i := 1) (oi := ⟨some 67, .load 43 (.tmp 66), 43, _, _, none⟩) (v := ?_) rfl (by kernel_rfl) rfl ?e hHeld ?_
            case e => intro wq hSw; (try dsimp only at hSw); go_simp; try with_reducible rfl
            try simp only [qq]
            refine tk (i := 2) (oi := ⟨some 68, .move (.tmp 12), 3, _, _, none⟩) (v := ?_) rfl (by kernel_rfl) rfl ?e hHeld ?_
            case e => intro wq hSw; (try dsimp only at hSw); go_simp; try with_reducible rfl
            try simp only [qq]
            refine tk (i := 3) (oi := ⟨some 69, .indexAddr 43 (.tmp 67) (.tmp 68), 0, _, _, none⟩) (v := ?_) rfl (by kernel_rfl) rfl ?e hHeld ?_
            case e => intro wq hSw; (try dsimp only at hSw); go_simp; try with_reducible rfl
            try simp only [qq]
            refine tk (i := 4) (oi := ⟨some 70, .fieldAddr 82 (.tmp 69) 0, 0, _, _, none⟩) (v := ?_) rfl (by kernel_rfl) rfl ?e hHeld ?_
            case e => intro wq hSw; (try dsimp only at hSw); go_simp; try with_reducible rfl
            try simp only [qq]
            refine tk (i := 5) (oi := ⟨some 71, .load 9 (.tmp 70), 9, _, _, none⟩) (v := ?_) rfl (by kernel_rfl) rfl ?e hHeld ?_
            case e => intro wq hSw; (try dsimp only at hSw); go_simp; try with_reducible rfl
            try simp only [qq]
            refine tk (i := 6) (oi := ⟨some 72, .fieldAddr 51 (.tmp 6) 1, 0, _, _, none⟩) (v := ?_) rfl (by kernel_rfl) rfl ?e hHeld ?_
            case e => intro wq hSw; (try dsimp only at hSw); go_simp; try with_reducible rfl
            try simp only [qq]
            refine tk (i := 7) (oi := ⟨some 73, .load 9 (.tmp 72), 9, _, _, none⟩) (v := ?_) rfl (by kernel_rfl) rfl ?e hHeld ?_
            case e => intro wq hSw; (try dsimp only at hSw); go_simp; try with_reducible rfl
            try simp only [qq]
            refine tk (i := 8) (oi := ⟨some 74, .binOp .add 9 (.tmp 73) (.const (.string { data := #[32] })) 9, 9, _, _, none⟩) (v := ?_) rfl (by kernel_rfl) rfl ?e hHeld ?_
            case e => intro wq hSw; (try dsimp only at hSw); go_simp; try rw [if_neg (by omega)]; try with_reducible rfl
            try simp only [qq]
            refine tk (i := 9) (oi := ⟨some 75, .fieldAddr 51 (.tmp 6) 2, 0, _, _, none⟩) (v := ?_) rfl (by kernel_rfl) rfl ?e hHeld ?_
            case e => intro wq hSw; (try dsimp only at hSw); go_simp; try with_reducible rfl
            try simp only [qq]
            refine tk (i := 10) (oi := ⟨some 76, .load 9 (.tmp 75), 9, _, _, none⟩) (v := ?_) rfl (by kernel_rfl) rfl ?e hHeld ?_
            case e => intro wq hSw; (try dsimp only at hSw); go_simp; try with_reducible rfl
            try simp only [qq]
            refine tk (i := 11) (oi := ⟨some 77, .binOp .add 9 (.tmp 74) (.tmp 76) 9, 9, _, _, none⟩) (v := ?_) rfl (by kernel_rfl) rfl ?e hHeld ?_
            case e => intro wq hSw; (try dsimp only at hSw); go_simp; try rw [if_neg (by omega)]; try with_reducible rfl
            try simp only [qq]
            refine tk (i := 12) (oi := ⟨some 78, .binOp .neq 9 (.tmp 71) (.tmp 77) 9, 4, _, _, none⟩) (v := ?_) rfl (by kernel_rfl) rfl ?e hHeld ?_
            case e => intro wq hSw; (try dsimp only at hSw); go_simp; try with_reducible rfl
            try simp only [qq]
            refine wpAnyH_done (by kernel_rfl) ?_ _
            clear hHeld
            go_wp2
            go_roundw
            case rel => exact ⟨k + 1, by omega, by go_num, hUwr.drew, HN⟩
            case measure => simp [Go.RowKit.intOf]; omega
        · have HN : Hid (anF s fs m ds = an0) := by
           unfold Hid
           rw [HJ.out, List.drop_of_length_le (by omega)]
           rfl
          clear HJ
          have BV := hidI (B6.out.below hUwr (by omega))
          have OV := hidI (O6.out.below hUwr (by omega))
          have hBV := hBwr
          have x0 := BV.out 0 _ rfl
          have fx0 := OV.out 0
          have x1 := BV.out 1 _ rfl
          have fx1 := OV.out 1
          have x2 := BV.out 2 _ rfl
          have fx2 := OV.out 2
          have x3 := BV.out 3 _ rfl
          have fx3 := OV.out 3
          have x4 := BV.out 4 _ rfl
          have fx4 := OV.out 4
          have x5 := BV.out 5 _ rfl
          have fx5 := OV.out 5
          go_wp2
          have HE := hidI (blk6 BV.out (.bool false) (.int .i64 0) (.string ⟨#[]⟩) (.bool false) (.string ⟨#[]⟩) (.int .i64 0))
          have e0q := HE.out 0 _ rfl
          have e1q := HE.out 1 _ rfl
          have e2q := HE.out 2 _ rfl
          have e3q := HE.out 3 _ rfl
          have e4q := HE.out 4 _ rfl
          have e5q := HE.out 5 _ rfl
          refine bodyPost_ret (v := .tuple #[.agg #[.bool false, .int .i64 0, .string ⟨#[]⟩, .bool false, .string ⟨#[]⟩, .int .i64 0], .slice (some ⟨w.heap.size + 1 + 1 + 1 + 1, 0, none⟩) 0 0]) (by simp [results, Tryz.results8, go_sem, e0q, e1q, e2q, e3q, e4q, e5q]) rfl ⟨?_, ((((((hBV.setCell (by simp; omega) _).setCell (by simp; omega) _).setCell (by simp; omega) _).setCell (by simp; omega) _).setCell (by simp; omega) _).setCell (by simp; omega) _)⟩
          rw [HN.out]
          exact ⟨_, rfl, own_low (own_setp (own_setp (own_setp (own_setp (own_setp (own_setp (own_below RW.out hUwr) (p := ⟨w.heap.size + 1 + 1 + 1, 0, none⟩) (.bool false) (by show w.heap.size + 1 + 1 + 1 < _; omega)) (p := ⟨w.heap.size + 1 + 1 + 1, 1, none⟩) (.int .i64 0) (by show w.heap.size + 1 + 1 + 1 < _; omega)) (p := ⟨w.heap.size + 1 + 1 + 1, 2, none⟩) (.string ⟨#[]⟩) (by show w.heap.size + 1 + 1 + 1 < _; omega)) (p := ⟨w.heap.size + 1 + 1 + 1, 3, none⟩) (.bool false) (by show w.heap.size + 1 + 1 + 1 < _; omega)) (p := ⟨w.heap.size + 1 + 1 + 1, 4, none⟩) (.string ⟨#[]⟩) (by show w.heap.size + 1 + 1 + 1 < _; omega)) (p := ⟨w.heap.size + 1 + 1 + 1, 5, none⟩) (.int .i64 0) (by show w.heap.size + 1 + 1 + 1 < _; omega)) (by omega)⟩
end Go.Proofs.YtboojefodbjbcaaGreatDoor
