import Derived.Test.YtboojefodbjbcaaGreatDoorRK
import Derived.Test.YtboojefodbjbcaaGreatDoorRC
import Derived.Test.YtboojefodbjbcaaGreatDoorZR23
import Derived.Deep.RegionHeld3
import Derived.Test.YtboojefodbjbcaaGreatDoorZR24
import Derived.Laws.OwnMore
import Derived.Test.YtboojefodbjbcaaGreatDoorZR29
namespace Go.Proofs.YtboojefodbjbcaaGreatDoor
open Go.RowKit Go.Maps
set_option maxRecDepth 100000
set_option linter.unusedVariables false
set_option linter.unusedSimpArgs false
theorem row_strs {w : World} {N g tc : Nat} {ts : List ByteArray} (h : w.ownsRow N 9 1 (.slice (some ⟨g, 0, none⟩) ts.length tc) ts.length (ts.map Value.string)) : g < w.heap.size ∧ ts.length ≤ tc ∧ tc ≤ maxLen ∧ ∀ k, k < ts.length → w.cell? ⟨g, k, none⟩ = some (.string (ts.getD k ByteArray.empty)) := by
 have hrow := h
 rcases h.2 with ⟨hv, _⟩ | ⟨g', cap, cur, hv, hg, hh, h1, h2, _⟩
 · cases hv
 · simp only [Value.slice.injEq, Option.some.injEq, Addr.mk.injEq, and_true] at hv
   obtain ⟨rfl, _, rfl⟩ := hv
   refine ⟨(Array.getElem?_eq_some_iff.1 hh).1, h1, h2, fun k hk => ?_⟩
   rw [hrow.cellAt k (by omega)]
   rw [List.getElem?_map, List.getElem?_eq_getElem hk]
   simp only [Option.map_some, List.getD, List.getElem?_eq_getElem hk, Option.getD_some]
theorem strs_row {w : World} {base : Nat} {a : Option Addr} {c : Nat} {ts : List ByteArray} (h : w.ownsRow base 9 1 (.slice a ts.length c) ts.length (ts.map Value.string)) : StrsAt w a ts := by
 rcases h.2 with ⟨hv, h0⟩ | ⟨g, cap, cur, hv, hg, hh, _⟩
 · exact .inl (List.length_eq_zero_iff.1 h0)
 · simp only [Value.slice.injEq] at hv
   obtain ⟨rfl, _, rfl⟩ := hv
   obtain ⟨r1, _, _, r4⟩ := row_strs h
   exact .inr ⟨g, 0, rfl, r1, fun k hk => by rw [Nat.zero_add]; exact r4 k hk⟩
theorem stF_lo {W : World} {base : Nat} {s : St} {tv rv : Value} {vs : List Value} (h1 : W.ownsRow base 9 1 tv s.ts.length (s.ts.map Value.string)) (h2 : RecOwn W base rv s.rs vs) {q : Nat} (hq : stF tv rv vs s.rs.length q) : base ≤ q ∧ q < W.heap.size ∧ ∃ t, OfT W q t ∧ (t = 9 ∨ t = 82 ∨ t = 127) := by
 rcases hq with e | e | ⟨i, hi, e⟩
 · exact ⟨own_blk h1 e, own_lt h1 e, 9, own_ofT h1 e, .inl rfl⟩
 · exact ⟨own_blk h2.row e, own_lt h2.row e, 82, own_ofT h2.row e, .inr (.inl rfl)⟩
 · obtain ⟨a, c, e3, h3⟩ := h2.gl i hi
   rw [e3] at e
   exact ⟨own_blk h3 e, own_lt h3 e, 127, own_ofT h3 e, .inr (.inr rfl)⟩
theorem mkN_eq (K : Int) (ts : List ByteArray) (rs : List R3) : mkN K ts rs = K + (ts.length : Int) + 2 * (rs.length : Int) + 3 * (gsum rs : Int) := by
 unfold mkN kn
 rw [List.take_length]
theorem opnC_same {w w' : World} {b c : Nat} (h : Opn w b c) (hz : w.heap.size ≤ w'.heap.size) (e : w'.heap[b]? = w.heap[b]?) : Opn w' b c :=
 ⟨Nat.lt_of_lt_of_le h.1 hz, fun j hj => by
  obtain ⟨v, hv⟩ := h.2.1 j hj
  exact ⟨v, by simp only [World.cell?, e]; simpa only [World.cell?] using hv⟩, opn_same h.2.2 e⟩
theorem DM.of_same {g S n : Nat} {w X Y : World} (h : DM g S n w X) (hz : X.heap.size ≤ Y.heap.size) (he : ∀ k, g ≤ k → k < S → Y.heap[k]? = X.heap[k]?) : DM g S n Y Y :=
 ⟨opnC_same h.op hz (he g (Nat.le_refl _) h.gs), fun i hi => by
  obtain ⟨gi, m, c, h1, h2, h3, h4, h5⟩ := h.dd i hi
  refine ⟨gi, m, c, h1, h2, ?_, h4, opnC_same h5 hz (he gi (by omega) h2)⟩
  have e := he g (Nat.le_refl _) h.gs
  simp only [World.cell?, e]
  simpa only [World.cell?] using h3, Chg.refl _ _, h.gs⟩
theorem files_opn {w : World} {g : Nat} {fs : List G.T.F2} (h : G.T.FilesAt w (some ⟨g, 0, none⟩) fs) (hu : Unf w g) : Opn w g (fs.length * 2) := by
 refine ⟨hu.1, fun j hj => ?_, hu.2⟩
 obtain ⟨b, off, hc⟩ := G.T.files_some h
 rcases hc with hc | ⟨ha, _, hc⟩
 · rw [hc] at hj; simp at hj
 · injection ha with ha; injection ha with h1 h2 _
   subst h1 h2
   have hd := hc (j / 2) (by omega)
   simp only [Nat.zero_add] at hd
   rcases Nat.mod_two_eq_zero_or_one j with e | e
   · exact ⟨_, by rw [show j = j / 2 * 2 by omega]; exact hd.1⟩
   · exact ⟨_, by rw [show j = j / 2 * 2 + 1 by omega]; exact hd.2⟩
theorem lks_opn {w : World} {g : Nat} {ls : List G.L4} (h : G.LksAt w (some ⟨g, 0, none⟩) ls) (hu : Unf w g) : Opn w g (ls.length * 4) := by
 refine ⟨hu.1, fun j hj => ?_, hu.2⟩
 obtain ⟨b, off, hc⟩ := G.lks_some h
 rcases hc with hc | ⟨ha, _, hc⟩
 · rw [hc] at hj; simp at hj
 · injection ha with ha; injection ha with h1 h2 _
   subst h1 h2
   have hd := hc (j / 4) (by omega)
   simp only [Nat.zero_add] at hd
   have : j % 4 = 0 ∨ j % 4 = 1 ∨ j % 4 = 2 ∨ j % 4 = 3 := by omega
   rcases this with e | e | e | e
   · exact ⟨_, by rw [show j = j / 4 * 4 by omega]; exact hd.1⟩
   · exact ⟨_, by rw [show j = j / 4 * 4 + 1 by omega]; exact hd.2.1⟩
   · exact ⟨_, by rw [show j = j / 4 * 4 + 2 by omega]; exact hd.2.2.1⟩
   · exact ⟨_, by rw [show j = j / 4 * 4 + 3 by omega]; exact hd.2.2.2⟩
theorem dm_of {w : World} {q : Nat} {ds : List G.D8} (hq : q < w.heap.size) (h : G.DeedsO w q ds) (hl : ∀ i, (ds.getD i G.d8z).ls.length ≤ 1048576) : DM q w.heap.size ds.length w w := by
 refine ⟨⟨hq, fun j hj => ?_, h.1.2⟩, fun i hi => ?_, Chg.refl _ _, hq⟩
 · obtain ⟨gi, _, ⟨c0, c1, c2, c3, c4, c5, c6, c7⟩, _⟩ := h.2 (j / 8) (by omega)
   have : j % 8 = 0 ∨ j % 8 = 1 ∨ j % 8 = 2 ∨ j % 8 = 3 ∨ j % 8 = 4 ∨ j % 8 = 5 ∨ j % 8 = 6 ∨ j % 8 = 7 := by omega
   rcases this with e | e | e | e | e | e | e | e
   · exact ⟨_, by rw [show j = j / 8 * 8 by omega]; exact c0⟩
   · exact ⟨_, by rw [show j = j / 8 * 8 + 1 by omega]; exact c1⟩
   · exact ⟨_, by rw [show j = j / 8 * 8 + 2 by omega]; exact c2⟩
   · exact ⟨_, by rw [show j = j / 8 * 8 + 3 by omega]; exact c3⟩
   · exact ⟨_, by rw [show j = j / 8 * 8 + 4 by omega]; exact c4⟩
   · exact ⟨_, by rw [show j = j / 8 * 8 + 5 by omega]; exact c5⟩
   · exact ⟨_, by rw [show j = j / 8 * 8 + 6 by omega]; exact c6⟩
   · exact ⟨_, by rw [show j = j / 8 * 8 + 7 by omega]; exact c7⟩
 · obtain ⟨gi, hg, hc, hk, hu⟩ := h.2 i hi
   exact ⟨gi, _, _, by omega, hu.1, hc.2.2.2.2.2.1, hl i, lks_opn hk hu⟩
theorem lC_len (ls : List L4) : (lC ls).length = ls.length * 4 := by
 induction ls with
 | nil => rfl
 | cons x r ih =>
  have e : lC (x :: r) = [Value.bool x.has, .string x.nm, .int .i64 x.cd, .string x.tx] ++ lC r := by simp [lC]
  rw [e, List.length_append, ih]
  simp
  omega
theorem own_open4 {w : World} {base g c : Nat} {ls : List L4} (h : w.ownsRow base 108 4 (.slice (some ⟨g, 0, none⟩) ls.length c) ls.length (lC ls)) (hg : g < w.heap.size) : Open4 w g ls.length :=
 ⟨hg, fun j hj => ⟨_, (h.cellAt j hj).trans (List.getElem?_eq_getElem (by rw [lC_len]; exact hj))⟩, fun j => h.frozenAt j⟩
theorem recQ_len (W : Int) (ts : List ByteArray) (see : Bool → ByteArray → Option (Int × ByteArray)) (B : Nat) : ∀ (rs : List R3), (∀ x ∈ rs, x.gs.length ≤ B) → (recQ W ts see rs).ls.length ≤ B
 | [], _ => Nat.zero_le _
 | x :: r, h => by
  have ih := recQ_len W ts see B r (fun y hy => h y (List.mem_cons_of_mem _ hy))
  have hx := h x (List.mem_cons_self ..)
  cases hq : tryK W see x.gs [] with
  | none => rw [recQ_none hq]; exact ih
  | some o =>
   obtain ⟨ls, o⟩ := o
   have hl := tryK_len x.gs [] hq
   simp at hl
   cases o with
   | some nm => rw [recQ_wait hq]; show ls.length ≤ B; omega
   | none =>
    cases hf : ts.find? (fun t => decide (sumS t W = x.out)) with
    | none => rw [recQ_gone hq hf]; exact ih
    | some t => rw [recQ_over hq hf]; show ls.length ≤ B; omega
theorem an_len {s : St} {fs : List G.T.F2} {m : M3} {ds : List G.D8} (h : ∀ i, (s.rs.getD i r3z).gs.length ≤ 1048576) : (anF s fs m ds).ls.length ≤ 1048576 := by
 unfold anF
 split
 · refine recQ_len _ _ _ _ _ (fun x hx => ?_)
   obtain ⟨i, hi, he⟩ := List.getElem_of_mem (List.mem_filter.1 hx).1
   have := h i
   rw [show s.rs.getD i r3z = x by simp [List.getD, List.getElem?_eq_getElem hi, he]] at this
   exact this
 · exact Nat.zero_le _
theorem is46_un {base : Nat} {A : An} {w' : World} {e : Ending} (h : Is46 base A w' e) : ∃ av cv, e = .returned (.tuple #[.agg #[.bool A.ov, .int .i64 A.cd, .string A.tx, .bool false, .string A.nm, .int .i64 0], .slice av A.ls.length cv]) ∧ w'.ownsRow base 108 4 (.slice av A.ls.length cv) A.ls.length (lC A.ls) := by
 obtain ⟨v, rfl, h⟩ := h
 obtain ⟨a, c, rfl⟩ := row_form h
 exact ⟨a, c, rfl, h⟩
end Go.Proofs.YtboojefodbjbcaaGreatDoor
namespace Go.Proofs.YtboojefodbjbcaaGreatDoor
open Go.RowKit
set_option maxRecDepth 100000
set_option maxHeartbeats 1000000 in
theorem c15 (a a' : Option Addr) (cap cap' : Nat) (is : List L4) (w : World) (hl : is.length ≤ 1048576) (hat : LksAt w a is) (hat' : LksAt w a' is) :
 Calls Tryz.prog 15 #[.slice a is.length cap, .slice a' is.length cap'] w fun e w' => e = .returned (.bool true) ∧ Below w.heap.size w w' := by
 obtain ⟨b, off, hc⟩ := lks_some hat
 have HC : Hid (is = [] ∨ (a = some ⟨b, off, none⟩ ∧ b < w.heap.size ∧ ∀ i, i < is.length → w.cell? ⟨b, off + i * 4, none⟩ = some (.bool (is.getD i l4z).has) ∧ w.cell? ⟨b, off + i * 4 + 1, none⟩ = some (.string (is.getD i l4z).nm) ∧ w.cell? ⟨b, off + i * 4 + 2, none⟩ = some (.int .i64 (is.getD i l4z).cd) ∧ w.cell? ⟨b, off + i * 4 + 3, none⟩ = some (.string (is.getD i l4z).tx))) := hc
 clear hc hat
 obtain ⟨b', off', hc'⟩ := lks_some hat'
 have HC' : Hid (is = [] ∨ (a' = some ⟨b', off', none⟩ ∧ b' < w.heap.size ∧ ∀ i, i < is.length → w.cell? ⟨b', off' + i * 4, none⟩ = some (.bool (is.getD i l4z).has) ∧ w.cell? ⟨b', off' + i * 4 + 1, none⟩ = some (.string (is.getD i l4z).nm) ∧ w.cell? ⟨b', off' + i * 4 + 2, none⟩ = some (.int .i64 (is.getD i l4z).cd) ∧ w.cell? ⟨b', off' + i * 4 + 3, none⟩ = some (.string (is.getD i l4z).tx))) := hc'
 clear hc' hat'
 go_enter Tryz.func15, Tryz.ntmps15
 go_wp2_with fail
 go_loopw [5] (fun i wr => ∃ (k : Nat), k ≤ is.length ∧ i = .int .i64 k ∧ Below w.heap.size w wr) (fun i _ => is.length - (Go.RowKit.intOf i).toNat)
 case atStart => exact ⟨0, Nat.zero_le _, rfl, Below.refl _ _⟩
 case round =>
  obtain ⟨k, hk, rfl, hb⟩ := hrel
  by_cases hlt : k < is.length
  · rcases HC.out with hss | ⟨ha, hbw, hcell⟩
    · rw [hss] at hlt; exact absurd hlt (Nat.not_lt_zero _)
    rcases HC'.out with hss | ⟨ha', hbw', hcell'⟩
    · rw [hss] at hlt; exact absurd hlt (Nat.not_lt_zero _)
    subst ha
    subst ha'
    have g0 := (hb.cell (p := ⟨b, off + k * 4, none⟩) hbw).trans (hcell k hlt).1
    have g1 := (hb.cell (p := ⟨b, off + k * 4 + 1, none⟩) hbw).trans (hcell k hlt).2.1
    have g2 := (hb.cell (p := ⟨b, off + k * 4 + 2, none⟩) hbw).trans (hcell k hlt).2.2.1
    have g3 := (hb.cell (p := ⟨b, off + k * 4 + 3, none⟩) hbw).trans (hcell k hlt).2.2.2
    have g0' := (hb.cell (p := ⟨b', off' + k * 4, none⟩) hbw').trans (hcell' k hlt).1
    have g1' := (hb.cell (p := ⟨b', off' + k * 4 + 1, none⟩) hbw').trans (hcell' k hlt).2.1
    have g2' := (hb.cell (p := ⟨b', off' + k * 4 + 2, none⟩) hbw').trans (hcell' k hlt).2.2.1
    have g3' := (hb.cell (p := ⟨b', off' + k * 4 + 3, none⟩) hbw').trans (hcell' k hlt).2.2.2
    generalize is.getD k l4z = x at *
    clear hcell hcell'
    go_wp2_with fail
    go_region_with (go_at_call 52; refine (c52 x _).mono ?_; rintro e w1 ⟨rfl, hb1⟩)
    all_goals go_wp2
    all_goals go_roundw
    all_goals first
     | exact ⟨k + 1, by omega, by go_num, (hb.drew).trans (hb1.mono hb.size)⟩
     | (simp [Go.RowKit.intOf]; omega)
  · go_wp2
    go_ret
    exact ⟨rfl, hb⟩
end Go.Proofs.YtboojefodbjbcaaGreatDoor
namespace Go.Proofs.YtboojefodbjbcaaGreatDoor
open Go.RowKit
set_option maxRecDepth 100000
end Go.Proofs.YtboojefodbjbcaaGreatDoor
namespace Go.Proofs.YtboojefodbjbcaaGreatDoor
open Go.RowKit
set_option maxRecDepth 100000
end Go.Proofs.YtboojefodbjbcaaGreatDoor
namespace Go.Proofs.YtboojefodbjbcaaGreatDoor
open Go.RowKit
set_option maxRecDepth 100000
end Go.Proofs.YtboojefodbjbcaaGreatDoor
namespace Go.Proofs.YtboojefodbjbcaaGreatDoor
open Go.RowKit
set_option maxRecDepth 100000
set_option maxHeartbeats 1000000 in
theorem c6 (x : M3) (l : Int) (w : World) (hs : x.le 9223372036854775807) (h0 : 0 ≤ l) (h1 : l ≤ 1048576) :
 Calls Tryz.prog 6 #[.agg #[.string x.nm, .string x.tl, .string x.ar], .int .i64 l] w fun e w' => (∃ r : Int, e = .returned (.int .i64 r) ∧ (0 ≤ r → x.le 1048576 ∧ r ≤ 1048576)) ∧ Below w.heap.size w w' := by
 obtain ⟨s1, s2, s3⟩ := hs
 have HL : Hid (∀ r : Int, (0 ≤ r → ((x.nm.size : Int) ≤ l ∧ (x.tl.size : Int) ≤ l ∧ (x.ar.size : Int) ≤ l ∧ r ≤ l)) → (0 ≤ r → x.le 1048576 ∧ r ≤ 1048576)) := fun r h g => by
  have := h g
  exact ⟨⟨by omega, by omega, by omega⟩, by omega⟩
 by_cases h' : l < x.nm.size
 · go_enter Tryz.func6, Tryz.ntmps6
   go_wp2
   go_ret
   exact ⟨⟨-1, rfl, HL.out _ fun h => by omega⟩, (Below.refl _ _).alloc (Nat.le_refl _) _⟩
 · by_cases h'' : l < x.nm.size + x.tl.size
   · go_enter Tryz.func6, Tryz.ntmps6
     go_wp2
     go_ret
     exact ⟨⟨-1, rfl, HL.out _ fun h => by omega⟩, (Below.refl _ _).alloc (Nat.le_refl _) _⟩
   · by_cases h3 : l < x.nm.size + x.tl.size + x.ar.size
     · go_enter Tryz.func6, Tryz.ntmps6
       go_wp2
       go_ret
       exact ⟨⟨-1, rfl, HL.out _ fun h => by omega⟩, (Below.refl _ _).alloc (Nat.le_refl _) _⟩
     · go_enter Tryz.func6, Tryz.ntmps6
       go_wp2
       go_ret
       exact ⟨⟨_, rfl, HL.out _ fun h => by omega⟩, (Below.refl _ _).alloc (Nat.le_refl _) _⟩
set_option maxHeartbeats 400000 in
theorem c11 (x : M3) (w : World) :
 Calls Tryz.prog 11 #[.agg #[.string x.nm, .string x.tl, .string x.ar]] w fun e w' => e = .returned (.agg #[.string x.nm, .string x.tl, .string x.ar]) ∧ Below w.heap.size w w' := by
 go_enter Tryz.func11, Tryz.ntmps11
 go_wp2
 refine bodyPost_ret (v := .agg #[.string x.nm, .string x.tl, .string x.ar]) (by simp [results, Tryz.results11, go_sem]) rfl ⟨rfl, ?_⟩
 exact (((Below.refl _ _).alloc (Nat.le_refl _) _).alloc (by simp) _).alloc (by simp; omega) _
structure D8 where
 nm : ByteArray
 made : Bool
 km : M3
 ls : List L4
 cd : Int
 tx : ByteArray
def D8.le (x : D8) (B : Nat) : Prop := x.nm.size ≤ B ∧ x.km.le B ∧ (x.ls.length ≤ B ∧ ∀ i, (x.ls.getD i l4z).le B) ∧ x.tx.size ≤ B
def DeedAt (w : World) (b o : Nat) (x : D8) : Prop := ∃ ai ci, (w.cell? ⟨b, o, none⟩ = some (.string x.nm) ∧ w.cell? ⟨b, o + 1, none⟩ = some (.bool x.made) ∧ w.cell? ⟨b, o + 2, none⟩ = some (.string x.km.nm) ∧ w.cell? ⟨b, o + 3, none⟩ = some (.string x.km.tl) ∧ w.cell? ⟨b, o + 4, none⟩ = some (.string x.km.ar) ∧ w.cell? ⟨b, o + 5, none⟩ = some (.slice ai x.ls.length ci) ∧ w.cell? ⟨b, o + 6, none⟩ = some (.int .i64 x.cd) ∧ w.cell? ⟨b, o + 7, none⟩ = some (.string x.tx)) ∧ LksAt w ai x.ls
end Go.Proofs.YtboojefodbjbcaaGreatDoor
namespace Go.Proofs.YtboojefodbjbcaaGreatDoor
open Go.RowKit Go.Maps
set_option maxRecDepth 100000
set_option linter.unusedVariables false
set_option linter.unusedSimpArgs false
end Go.Proofs.YtboojefodbjbcaaGreatDoor
