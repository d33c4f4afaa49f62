import Derived.Test.YtkhlekmicpmpkaaGreatDoorMB
import Derived.Test.YtkhlekmicpmpkaaGreatDoorM8
import Derived.Test.YtkhlekmicpmpkaaGreatDoorD6
namespace Go.Proofs.YtkhlekmicpmpkaaGreatDoor
open Go.RowKit Go.Maps
set_option maxRecDepth 100000
set_option linter.unusedVariables false
theorem keepF_ok {s : St} {m : M3} {ls : List L4} {c : Int} {t : ByteArray} (h : StOk s) : (keepC s.wd s.ts s.rs m ls c t = 0 → keepF s m ls c t = (⟨s.wd, (putAll s.wd (fmL ls c t) (s.ts, true)).1, putR s.rs (recR s.wd m ls c t)⟩, 0)) ∧ (keepC s.wd s.ts s.rs m ls c t ≠ 0 → keepF s m ls c t = (st0, keepC s.wd s.ts s.rs m ls c t)) := by
 by_cases h1 : RanOk m ls c t
 · by_cases h2 : (putAll s.wd (fmL ls c t) (s.ts, true)).2 = false
   · simp [keepF, keepC, h, h1, h2]
   · by_cases h3 : 300 < (putAll s.wd (fmL ls c t) (s.ts, true)).1.length ∨ 150 < (putR s.rs (recR s.wd m ls c t)).length
     · simp [keepF, keepC, h, h1, h2, h3]
     · simp [keepF, keepC, h, h1, h2, h3]
 · simp [keepF, keepC, h, h1]
theorem keepF_no {s : St} {m : M3} {ls : List L4} {c : Int} {t : ByteArray} (h : ¬ StOk s) : keepF s m ls c t = (st0, 1) := by
 unfold keepF
 rw [if_pos h]
def IsKeep (s : St) (m : M3) (ls : List L4) (c : Int) (t : ByteArray) (base : Nat) (w' : World) (e : Ending) : Prop :=
 ∃ ta tc ra rc, e = .returned (.tuple #[.agg #[.int .i64 (keepF s m ls c t).1.wd, .slice ta (keepF s m ls c t).1.ts.length tc, .slice ra (keepF s m ls c t).1.rs.length rc], .int .i64 (keepF s m ls c t).2]) ∧ StOwn w' base (keepF s m ls c t).1.ts (keepF s m ls c t).1.rs (.slice ta (keepF s m ls c t).1.ts.length tc) (.slice ra (keepF s m ls c t).1.rs.length rc)
theorem stOwn_nil (W : World) (base : Nat) : StOwn W base [] [] (.slice none 0 0) (.slice none 0 0) := ⟨World.ownsRow_nil _ _ _ _, [], rfl, World.ownsRow_nil _ _ _ _, fun i h => absurd h (Nat.not_lt_zero _), fun i j h => absurd h (Nat.not_lt_zero _)⟩
theorem isKeep_st0 {s : St} {m : M3} {ls : List L4} {c : Int} {t : ByteArray} {base : Nat} {w' : World} {n : Int} (h : keepF s m ls c t = (st0, n)) : IsKeep s m ls c t base w' (.returned (.tuple #[.agg #[.int .i64 0, .slice none 0 0, .slice none 0 0], .int .i64 n])) := by
 unfold IsKeep
 rw [h]
 exact ⟨none, 0, none, 0, rfl, stOwn_nil _ _⟩
theorem isKeep_ok {s : St} {m : M3} {ls : List L4} {c : Int} {t : ByteArray} {base : Nat} {w' : World} {d : Int} {pt : List ByteArray} {pr : List R3} {ta ra : Option Addr} {tc rc : Nat} (h : keepF s m ls c t = (⟨d, pt, pr⟩, 0)) (hs : StOwn w' base pt pr (.slice ta pt.length tc) (.slice ra pr.length rc)) : IsKeep s m ls c t base w' (.returned (.tuple #[.agg #[.int .i64 d, .slice ta pt.length tc, .slice ra pr.length rc], .int .i64 0])) := by
 unfold IsKeep
 rw [h]
 exact ⟨ta, tc, ra, rc, rfl, hs⟩
theorem keepC_small {W : Int} {ts : List ByteArray} {rs : List R3} {m : M3} {ls : List L4} {c : Int} {t : ByteArray} (h : keepC W ts rs m ls c t = 0) : (putAll W (fmL ls c t) (ts, true)).1.length ≤ 1000 ∧ (putR rs (recR W m ls c t)).length ≤ 1000 := by
 unfold keepC at h
 split at h
 · exact absurd h (by decide)
 · split at h
   · exact absurd h (by decide)
   · split at h
     · exact absurd h (by decide)
     · rename_i h3
       constructor
       · exact Nat.le_of_not_lt (fun k => h3 (.inl (by omega)))
       · exact Nat.le_of_not_lt (fun k => h3 (.inr (by omega)))
theorem putR_gs {rs : List R3} {x : R3} (h : ∀ i, (rs.getD i r3z).gs.length ≤ 1048576) (hx : x.gs.length ≤ 1048576) : ∀ i, ((putR rs x).getD i r3z).gs.length ≤ 1048576 := fun i => by
 unfold putR
 split
 · exact h i
 · rcases Nat.lt_or_ge i rs.length with h1 | h1
   · have e : (rs ++ [x]).getD i r3z = rs.getD i r3z := by simp only [List.getD, List.getElem?_append_left h1]
     rw [e]; exact h i
   · rcases Nat.lt_or_ge rs.length i with h2 | h2
     · have e : (rs ++ [x]).getD i r3z = r3z := by simp only [List.getD]; rw [List.getElem?_eq_none (by simp; omega)]; rfl
       rw [e]; decide
     · obtain rfl : i = rs.length := by omega
       have e : (rs ++ [x]).getD rs.length r3z = x := by simp [List.getD]
       rw [e]; exact hx
theorem StOwn.keep {W W' : World} {base : Nat} {ts : List ByteArray} {rs : List R3} {tv rvv : Value} (h : StOwn W base ts rs tv rvv) (hk : ∀ q, base ≤ q → q < W.heap.size → W'.heap[q]? = W.heap[q]?) : StOwn W' base ts rs tv rvv := by
 obtain ⟨h1, vs, h2⟩ := h
 refine ⟨own_keep' h1 (fun q hq => hk q (own_blk h1 hq) (own_lt h1 hq)), vs, h2.len, own_keep' h2.row (fun q hq => hk q (own_blk h2.row hq) (own_lt h2.row hq)), fun i hi => ?_, h2.apart⟩
 obtain ⟨a3, c3, e, h3⟩ := h2.gl i hi
 exact ⟨a3, c3, e, own_keep' h3 (fun q hq => hk q (own_blk h3 hq) (own_lt h3 hq))⟩
theorem StOwn.low {W : World} {base base' : Nat} {ts : List ByteArray} {rs : List R3} {tv rvv : Value} (h : StOwn W base ts rs tv rvv) (hb : base' ≤ base) : StOwn W base' ts rs tv rvv := by
 obtain ⟨h1, vs, h2⟩ := h
 refine ⟨own_low h1 hb, vs, h2.len, own_low h2.row hb, fun i hi => ?_, h2.apart⟩
 obtain ⟨a3, c3, e, h3⟩ := h2.gl i hi
 exact ⟨a3, c3, e, own_low h3 hb⟩
set_option maxHeartbeats 8000000 in
theorem c13 (s : St) (m : M3) (ls : List L4) (c : Int) (t : ByteArray) (ta ra la : Option Addr) (tc rc lc : Nat) (w : World) (hs : s.le 1048576) (hm : m.le 1048576) (hl : ls.length ≤ 1048576) (hls : ∀ i, (ls.getD i l4z).le 1048576) (ht : t.size ≤ 1048576) (hat : StAt w ta ra s) (hla : LksAt w la ls) (hmx : MaxAt w) :
 Calls Tryz.prog 13 #[.agg #[.int .i64 s.wd, .slice ta s.ts.length tc, .slice ra s.rs.length rc], .agg #[.string m.nm, .string m.tl, .string m.ar], .slice la ls.length lc, .agg #[.int .i64 c, .string t]] w fun e w' => IsKeep s m ls c t w.heap.size w' e ∧ Below w.heap.size w w' := by
 have BW0 : Below w.heap.size w ((((w.alloc (.cells #[.int .i64 s.wd, .slice ta s.ts.length tc, .slice ra s.rs.length rc] 37)).alloc (.cells #[.string m.nm, .string m.tl, .string m.ar] 41)).alloc (.cells #[.int .i64 c, .string t] 45)).alloc (.cells #[.int .i64 0, .slice none 0 0, .slice none 0 0] 37)) := ((((Below.refl _ _).alloc (Nat.le_refl _) _).alloc (by simp) _).alloc (by simp; omega) _).alloc (by simp; omega) _
 have s0 : ((((w.alloc (.cells #[.int .i64 s.wd, .slice ta s.ts.length tc, .slice ra s.rs.length rc] 37)).alloc (.cells #[.string m.nm, .string m.tl, .string m.ar] 41)).alloc (.cells #[.int .i64 c, .string t] 45)).alloc (.cells #[.int .i64 0, .slice none 0 0, .slice none 0 0] 37)).heap.size = w.heap.size + 4 := by simp
 have z1 : (w.alloc (.cells #[.int .i64 s.wd, .slice ta s.ts.length tc, .slice ra s.rs.length rc] 37)).heap.size = w.heap.size + 1 := by simp
 have z2 : ((w.alloc (.cells #[.int .i64 s.wd, .slice ta s.ts.length tc, .slice ra s.rs.length rc] 37)).alloc (.cells #[.string m.nm, .string m.tl, .string m.ar] 41)).heap.size = w.heap.size + 2 := by simp
 have z3 : (((w.alloc (.cells #[.int .i64 s.wd, .slice ta s.ts.length tc, .slice ra s.rs.length rc] 37)).alloc (.cells #[.string m.nm, .string m.tl, .string m.ar] 41)).alloc (.cells #[.int .i64 c, .string t] 45)).heap.size = w.heap.size + 3 := by simp
 have hb1 : Below (w.heap.size + 1) (w.alloc (.cells #[.int .i64 s.wd, .slice ta s.ts.length tc, .slice ra s.rs.length rc] 37)) ((((w.alloc (.cells #[.int .i64 s.wd, .slice ta s.ts.length tc, .slice ra s.rs.length rc] 37)).alloc (.cells #[.string m.nm, .string m.tl, .string m.ar] 41)).alloc (.cells #[.int .i64 c, .string t] 45)).alloc (.cells #[.int .i64 0, .slice none 0 0, .slice none 0 0] 37)) := (((Below.refl _ _).alloc (by simp) _).alloc (by simp) _).alloc (by simp) _
 have hb2 : Below (w.heap.size + 2) ((w.alloc (.cells #[.int .i64 s.wd, .slice ta s.ts.length tc, .slice ra s.rs.length rc] 37)).alloc (.cells #[.string m.nm, .string m.tl, .string m.ar] 41)) ((((w.alloc (.cells #[.int .i64 s.wd, .slice ta s.ts.length tc, .slice ra s.rs.length rc] 37)).alloc (.cells #[.string m.nm, .string m.tl, .string m.ar] 41)).alloc (.cells #[.int .i64 c, .string t] 45)).alloc (.cells #[.int .i64 0, .slice none 0 0, .slice none 0 0] 37)) := ((Below.refl _ _).alloc (by simp) _).alloc (by simp) _
 have hb3 : Below (w.heap.size + 3) (((w.alloc (.cells #[.int .i64 s.wd, .slice ta s.ts.length tc, .slice ra s.rs.length rc] 37)).alloc (.cells #[.string m.nm, .string m.tl, .string m.ar] 41)).alloc (.cells #[.int .i64 c, .string t] 45)) ((((w.alloc (.cells #[.int .i64 s.wd, .slice ta s.ts.length tc, .slice ra s.rs.length rc] 37)).alloc (.cells #[.string m.nm, .string m.tl, .string m.ar] 41)).alloc (.cells #[.int .i64 c, .string t] 45)).alloc (.cells #[.int .i64 0, .slice none 0 0, .slice none 0 0] 37)) := (Below.refl _ _).alloc (by simp) _
 have BS0 : Hid (BlkAt ((((w.alloc (.cells #[.int .i64 s.wd, .slice ta s.ts.length tc, .slice ra s.rs.length rc] 37)).alloc (.cells #[.string m.nm, .string m.tl, .string m.ar] 41)).alloc (.cells #[.int .i64 c, .string t] 45)).alloc (.cells #[.int .i64 0, .slice none 0 0, .slice none 0 0] 37)) w.heap.size [.int .i64 s.wd, .slice ta s.ts.length tc, .slice ra s.rs.length rc]) := hidI ((blk_new w [.int .i64 s.wd, .slice ta s.ts.length tc, .slice ra s.rs.length rc] 37).below hb1 (by omega))
 have BM0 : Hid (BlkAt ((((w.alloc (.cells #[.int .i64 s.wd, .slice ta s.ts.length tc, .slice ra s.rs.length rc] 37)).alloc (.cells #[.string m.nm, .string m.tl, .string m.ar] 41)).alloc (.cells #[.int .i64 c, .string t] 45)).alloc (.cells #[.int .i64 0, .slice none 0 0, .slice none 0 0] 37)) (w.heap.size + 1) [.string m.nm, .string m.tl, .string m.ar]) := by have h := blk_new (w.alloc (.cells #[.int .i64 s.wd, .slice ta s.ts.length tc, .slice ra s.rs.length rc] 37)) [.string m.nm, .string m.tl, .string m.ar] 41; rw [z1] at h; exact h.below hb2 (by omega)
 have BC0 : Hid (BlkAt ((((w.alloc (.cells #[.int .i64 s.wd, .slice ta s.ts.length tc, .slice ra s.rs.length rc] 37)).alloc (.cells #[.string m.nm, .string m.tl, .string m.ar] 41)).alloc (.cells #[.int .i64 c, .string t] 45)).alloc (.cells #[.int .i64 0, .slice none 0 0, .slice none 0 0] 37)) (w.heap.size + 2) [.int .i64 c, .string t]) := by have h := blk_new ((w.alloc (.cells #[.int .i64 s.wd, .slice ta s.ts.length tc, .slice ra s.rs.length rc] 37)).alloc (.cells #[.string m.nm, .string m.tl, .string m.ar] 41)) [.int .i64 c, .string t] 45; rw [z2] at h; exact h.below hb3 (by omega)
 have BZ0 : Hid (BlkAt ((((w.alloc (.cells #[.int .i64 s.wd, .slice ta s.ts.length tc, .slice ra s.rs.length rc] 37)).alloc (.cells #[.string m.nm, .string m.tl, .string m.ar] 41)).alloc (.cells #[.int .i64 c, .string t] 45)).alloc (.cells #[.int .i64 0, .slice none 0 0, .slice none 0 0] 37)) (w.heap.size + 3) [.int .i64 0, .slice none 0 0, .slice none 0 0]) := by have h := blk_new (((w.alloc (.cells #[.int .i64 s.wd, .slice ta s.ts.length tc, .slice ra s.rs.length rc] 37)).alloc (.cells #[.string m.nm, .string m.tl, .string m.ar] 41)).alloc (.cells #[.int .i64 c, .string t] 45)) [.int .i64 0, .slice none 0 0, .slice none 0 0] 37; rw [z3] at h; exact h
 have OZ0 : Hid (OpnAt ((((w.alloc (.cells #[.int .i64 s.wd, .slice ta s.ts.length tc, .slice ra s.rs.length rc] 37)).alloc (.cells #[.string m.nm, .string m.tl, .string m.ar] 41)).alloc (.cells #[.int .i64 c, .string t] 45)).alloc (.cells #[.int .i64 0, .slice none 0 0, .slice none 0 0] 37)) (w.heap.size + 3)) := by have h := opn_new (((w.alloc (.cells #[.int .i64 s.wd, .slice ta s.ts.length tc, .slice ra s.rs.length rc] 37)).alloc (.cells #[.string m.nm, .string m.tl, .string m.ar] 41)).alloc (.cells #[.int .i64 c, .string t] 45)) #[.int .i64 0, .slice none 0 0, .slice none 0 0] 37; rw [z3] at h; exact h
 have y0 := BS0.out 0 _ rfl
 have y1 := BS0.out 1 _ rfl
 have y2 := BS0.out 2 _ rfl
 have HA := hidI hat
 have HL := hidI hla
 have HX := hidI hmx
 have h32 := c32 ta ra tc rc s _ hs (HA.out.below BW0) (max_gb HX.out BW0 hmx.1)
 have hm0 := hmx.1
 clear hat hla hmx hb1 hb2 hb3
 go_enter Tryz.func13, Tryz.ntmps13
 go_wp2_with fail
 refine h32.mono ?_
 rintro e w1 ⟨⟨bo, rfl, hbo⟩, hb1⟩
 clear h32
 generalize ((((w.alloc (.cells #[.int .i64 s.wd, .slice ta s.ts.length tc, .slice ra s.rs.length rc] 37)).alloc (.cells #[.string m.nm, .string m.tl, .string m.ar] 41)).alloc (.cells #[.int .i64 c, .string t] 45)).alloc (.cells #[.int .i64 0, .slice none 0 0, .slice none 0 0] 37)) = U3 at *
 have s1 := hb1.size
 have BS1 := hidI (BS0.out.below hb1 (by omega))
 have BM1 := hidI (BM0.out.below hb1 (by omega))
 have BC1 := hidI (BC0.out.below hb1 (by omega))
 have BZ1 := hidI (BZ0.out.below hb1 (by omega))
 have OZ1 := hidI (OZ0.out.below hb1 (by omega))
 have BW1 := BW0.trans (hb1.mono (by omega))
 cases bo
 · have HK := hidI (keepF_no (m := m) (ls := ls) (c := c) (t := t) (fun h => absurd (hbo.2 h) (by decide)))
   clear hbo
   have p0 := BZ1.out 0 _ rfl
   have p1 := BZ1.out 1 _ rfl
   have p2 := BZ1.out 2 _ rfl
   have o0 := OZ1.out 0
   have o1 := OZ1.out 1
   have o2 := OZ1.out 2
   have ZT : BlkAt (((w1.setCell ⟨w.heap.size + 3, 0, none⟩ (.int .i64 0)).setCell ⟨w.heap.size + 3, 1, none⟩ (.slice none 0 0)).setCell ⟨w.heap.size + 3, 2, none⟩ (.slice none 0 0)) (w.heap.size + 3) [.int .i64 0, .slice none 0 0, .slice none 0 0] := ((BZ1.out.set 0 _ (by simp)).set 1 _ (by simp)).set 2 _ (by simp)
   have e0 := ZT 0 _ rfl
   have e1 := ZT 1 _ rfl
   have e2 := ZT 2 _ rfl
   have BT : Below w.heap.size w (((w1.setCell ⟨w.heap.size + 3, 0, none⟩ (.int .i64 0)).setCell ⟨w.heap.size + 3, 1, none⟩ (.slice none 0 0)).setCell ⟨w.heap.size + 3, 2, none⟩ (.slice none 0 0)) := ((BW1.setCell (p := ⟨w.heap.size + 3, 0, none⟩) (by show w.heap.size ≤ w.heap.size + 3; omega) _).setCell (p := ⟨w.heap.size + 3, 1, none⟩) (by show w.heap.size ≤ w.heap.size + 3; omega) _).setCell (p := ⟨w.heap.size + 3, 2, none⟩) (by show w.heap.size ≤ w.heap.size + 3; omega) _
   clear ZT
   go_wp2
   refine bodyPost_ret (v := .tuple #[.agg #[.int .i64 0, .slice none 0 0, .slice none 0 0], .int .i64 1]) (by simp [results, Tryz.results13, go_sem, e0, e1, e2]) rfl ⟨isKeep_st0 HK.out, BT⟩
 · have hok := hbo.1 rfl
   have HOK := hidI hok
   have x0 := BS1.out 0 _ rfl
   have x1 := BS1.out 1 _ rfl
   have x2 := BS1.out 2 _ rfl
   have h33 := c33 s ta ra tc rc w1 hok hs (HA.out.below BW1) (max_gb HX.out BW1 hm0)
   clear hbo y0 y1 y2
   go_wp2_with fail
   refine h33.mono ?_
   rintro e w2 ⟨⟨H, bT, bR, bP, rv, rfl, hSh⟩, hb2⟩
   clear h33 x0 x1 x2
   have s2 := hb2.size
   have BS2 := hidI (BS1.out.below hb2 (by omega))
   have BM2 := hidI (BM1.out.below hb2 (by omega))
   have BC2 := hidI (BC1.out.below hb2 (by omega))
   have BZ2 := hidI (BZ1.out.below hb2 (by omega))
   have OZ2 := hidI (OZ1.out.below hb2 (by omega))
   have BW2 := BW1.trans (hb2.mono (by omega))
   have HSH := hidI hSh
   have hrl : s.rs.length ≤ 150 := hok.2.2.1
   have htl : s.ts.length ≤ 300 := hok.2.1.1
   have hgs : ∀ i, (s.rs.getD i r3z).gs.length ≤ 1048576 := fun i => (hs.2.2 i).2.1
   have m0 := BM2.out 0 _ rfl
   have m1 := BM2.out 1 _ rfl
   have m2 := BM2.out 2 _ rfl
   have q0 := BC2.out 0 _ rfl
   have q1 := BC2.out 1 _ rfl
   have hB1 : w.heap.size + 4 ≤ w1.heap.size := by omega
   have h34 := c34 w1.heap.size H bT bR bP s.wd s.ts s.rs rv m ls c t la lc w2 hSh hok.1 (asc_of_ok hok) htl hrl hgs hm hl hls ht (lks_below HL.out BW2)
   clear hSh hok
   go_wp2_with fail
   refine h34.mono ?_
   rintro e w3 ⟨⟨rfl, hk0⟩, hb3⟩
   clear h34 m0 m1 m2 q0 q1
   have s3 := hb3.size
   have BZ3 := hidI (BZ2.out.below hb3 (by omega))
   have OZ3 := hidI (OZ2.out.below hb3 (by omega))
   have BW3 := BW2.trans (hb3.mono (by omega))
   by_cases hkc : keepC s.wd s.ts s.rs m ls c t = 0
   · obtain ⟨rv', hS3⟩ := hk0 hkc
     have HK := hidI ((keepF_ok (m := m) (ls := ls) (c := c) (t := t) HOK.out).1 hkc)
     rw [hkc]
     have hp1 : (putAll s.wd (fmL ls c t) (s.ts, true)).1.length ≤ 1000 ∧ (putR s.rs (recR s.wd m ls c t)).length ≤ 1000 := keepC_small hkc
     have h35 := c35 w1.heap.size H bT bR bP s.wd (putAll s.wd (fmL ls c t) (s.ts, true)).1 (putR s.rs (recR s.wd m ls c t)) rv' w3 hS3 HOK.out.1 hp1.1 hp1.2 (putR_gs hgs (by show (ls.map (recG s.wd)).length ≤ 1048576; simpa using hl))
     clear hk0
     generalize hpt : (putAll s.wd (fmL ls c t) (s.ts, true)).1 = pt at *
     generalize hpr : putR s.rs (recR s.wd m ls c t) = pr at *
     go_wp2_with fail
     refine h35.mono ?_
     rintro e w4 ⟨⟨ta4, tc4, ra4, rc4, rfl, hst⟩, hb4⟩
     clear h35
     have s4 := hb4.size
     have BZ4 := hidI (BZ3.out.below hb4 (by omega))
     have OZ4 := hidI (OZ3.out.below hb4 (by omega))
     have BW4 := BW3.trans (hb4.mono (by omega))
     have p0 := BZ4.out 0 _ rfl
     have p1 := BZ4.out 1 _ rfl
     have p2 := BZ4.out 2 _ rfl
     have o0 := OZ4.out 0
     have o1 := OZ4.out 1
     have o2 := OZ4.out 2
     have ZT : BlkAt (((w4.setCell ⟨w.heap.size + 3, 0, none⟩ (.int .i64 s.wd)).setCell ⟨w.heap.size + 3, 1, none⟩ (.slice ta4 pt.length tc4)).setCell ⟨w.heap.size + 3, 2, none⟩ (.slice ra4 pr.length rc4)) (w.heap.size + 3) [.int .i64 s.wd, .slice ta4 pt.length tc4, .slice ra4 pr.length rc4] := ((BZ4.out.set 0 _ (by simp)).set 1 _ (by simp)).set 2 _ (by simp)
     have e0 := ZT 0 _ rfl
     have e1 := ZT 1 _ rfl
     have e2 := ZT 2 _ rfl
     have BT : Below w.heap.size w (((w4.setCell ⟨w.heap.size + 3, 0, none⟩ (.int .i64 s.wd)).setCell ⟨w.heap.size + 3, 1, none⟩ (.slice ta4 pt.length tc4)).setCell ⟨w.heap.size + 3, 2, none⟩ (.slice ra4 pr.length rc4)) := ((BW4.setCell (p := ⟨w.heap.size + 3, 0, none⟩) (by show w.heap.size ≤ w.heap.size + 3; omega) _).setCell (p := ⟨w.heap.size + 3, 1, none⟩) (by show w.heap.size ≤ w.heap.size + 3; omega) _).setCell (p := ⟨w.heap.size + 3, 2, none⟩) (by show w.heap.size ≤ w.heap.size + 3; omega) _
     have HST := hidI ((hst.keep (W' := (((w4.setCell ⟨w.heap.size + 3, 0, none⟩ (.int .i64 s.wd)).setCell ⟨w.heap.size + 3, 1, none⟩ (.slice ta4 pt.length tc4)).setCell ⟨w.heap.size + 3, 2, none⟩ (.slice ra4 pr.length rc4))) (fun q h1 _ => (Below.heap_setCell _ _ _ _ (by show q ≠ w.heap.size + 3; omega)).trans ((Below.heap_setCell _ _ _ _ (by show q ≠ w.heap.size + 3; omega)).trans (Below.heap_setCell _ _ _ _ (by show q ≠ w.heap.size + 3; omega))))).low (show w.heap.size ≤ w3.heap.size by omega))
     have HIK := hidI (isKeep_ok HK.out HST.out)
     clear hst HST
     clear ZT
     go_wp2
     refine bodyPost_ret (v := .tuple #[.agg #[.int .i64 s.wd, .slice ta4 pt.length tc4, .slice ra4 pr.length rc4], .int .i64 0]) (by simp [results, Tryz.results13, go_sem, e0, e1, e2]) rfl ⟨HIK.out, BT⟩
   · have HK := hidI ((keepF_ok (m := m) (ls := ls) (c := c) (t := t) HOK.out).2 hkc)
     clear hk0
     generalize keepC s.wd s.ts s.rs m ls c t = kc at *
     have p0 := BZ3.out 0 _ rfl
     have p1 := BZ3.out 1 _ rfl
     have p2 := BZ3.out 2 _ rfl
     have o0 := OZ3.out 0
     have o1 := OZ3.out 1
     have o2 := OZ3.out 2
     have ZT : BlkAt (((w3.setCell ⟨w.heap.size + 3, 0, none⟩ (.int .i64 0)).setCell ⟨w.heap.size + 3, 1, none⟩ (.slice none 0 0)).setCell ⟨w.heap.size + 3, 2, none⟩ (.slice none 0 0)) (w.heap.size + 3) [.int .i64 0, .slice none 0 0, .slice none 0 0] := ((BZ3.out.set 0 _ (by simp)).set 1 _ (by simp)).set 2 _ (by simp)
     have e0 := ZT 0 _ rfl
     have e1 := ZT 1 _ rfl
     have e2 := ZT 2 _ rfl
     have BT : Below w.heap.size w (((w3.setCell ⟨w.heap.size + 3, 0, none⟩ (.int .i64 0)).setCell ⟨w.heap.size + 3, 1, none⟩ (.slice none 0 0)).setCell ⟨w.heap.size + 3, 2, none⟩ (.slice none 0 0)) := ((BW3.setCell (p := ⟨w.heap.size + 3, 0, none⟩) (by show w.heap.size ≤ w.heap.size + 3; omega) _).setCell (p := ⟨w.heap.size + 3, 1, none⟩) (by show w.heap.size ≤ w.heap.size + 3; omega) _).setCell (p := ⟨w.heap.size + 3, 2, none⟩) (by show w.heap.size ≤ w.heap.size + 3; omega) _
     clear ZT
     go_wp2
     refine bodyPost_ret (v := .tuple #[.agg #[.int .i64 0, .slice none 0 0, .slice none 0 0], .int .i64 kc]) (by simp [results, Tryz.results13, go_sem, e0, e1, e2]) rfl ⟨isKeep_st0 HK.out, BT⟩
end Go.Proofs.YtkhlekmicpmpkaaGreatDoor
