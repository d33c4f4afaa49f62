import Derived.Test.YtkhlekmicpmpkaaGreatDoorMF
import Derived.Test.YtkhlekmicpmpkaaGreatDoorMH
import Derived.Test.YtkhlekmicpmpkaaGreatDoorZK35
import Derived.Test.YtkhlekmicpmpkaaGreatDoorD7
import Derived.Test.YtkhlekmicpmpkaaGreatDoorZK18
import Derived.Test.YtkhlekmicpmpkaaGreatDoorK6
import Derived.Test.YtkhlekmicpmpkaaGreatDoorZK07
namespace Go.Proofs.YtkhlekmicpmpkaaGreatDoor
open Go.RowKit Go.Maps
set_option maxRecDepth 100000
set_option linter.unusedVariables false
set_option linter.unusedSimpArgs false
theorem recsS_at {w : World} {a : Option Addr} {is : List R3} (h : RecsAtS w a is) : RecsAt w a is := by
 rcases h with h | ⟨b, off, h1, h2, h3⟩
 · exact .inl h
 · refine .inr ⟨b, off, h1, h2, fun i hi => ?_⟩
   obtain ⟨ad, ci, g0, g1, g2, g3⟩ := h3 i hi
   exact ⟨some ad, ci, g0, g1, g2, g3⟩
theorem stAt_of {w : World} {ta ra : Option Addr} {s : St} (h : StrsAt w ta s.ts) (h' : RecsAtS w ra s.rs) : StAt w ta ra s := ⟨h, recsS_at h'⟩
theorem keepF_two {s : St} {m : M3} {ls : List L4} {c : Int} {t : ByteArray} (h : StOk s) (h2 : ¬ RanOk m ls c t) : keepF s m ls c t = (st0, 2) := by
 simp [keepF, h, h2]
theorem glC_gC (W : Int) (ls : List L4) : glC W ls = gC (ls.map (recG W)) := by
 unfold glC gC
 rw [List.flatMap_map]
 rfl
theorem putAll_small {W : Int} {ts fs T : List ByteArray} {b : Bool} (h : putAll W fs (ts, true) = (T, b)) (h1 : ∀ i, (ts.getD i ByteArray.empty).size ≤ 1048700) (h2 : ∀ x ∈ fs, x.size ≤ 1048700) : ∀ i, (T.getD i ByteArray.empty).size ≤ 1048700 := fun i => by
 rcases Nat.lt_or_ge i T.length with hi | hi
 · have hm := getD_memT hi
   have e : T = (putAll W fs (ts, true)).1 := by rw [h]
   rw [e] at hm
   rcases putAll_mem fs _ hm with hx | hx
   · rw [e]; exact h2 _ hx
   · obtain ⟨j, hj, e2⟩ := List.getElem_of_mem hx
     have := h1 j
     simp only [List.getD, List.getElem?_eq_getElem hj, Option.getD_some] at this
     rw [e, ← e2]
     exact this
 · have : T.getD i ByteArray.empty = ByteArray.empty := by simp [List.getD, List.getElem?_eq_none hi]
   rw [this]
   exact Nat.zero_le _
theorem fmK_small {ls : List L4} (h : ∀ i, (ls.getD i l4z).le 1048576) (k : Nat) : ∀ x ∈ fmK ls k, x.size ≤ 1048700 := by
 have hm : ∀ l : List L4, (∀ y ∈ l, y.tx.size ≤ 1048576) → ∀ x ∈ (askR l).map (fun r => fmR r.1 r.2), x.size ≤ 1048700 := by
  intro l
  induction l with
  | nil => intro _ x hx; simp [askR] at hx
  | cons y r ih =>
   intro hl x hx
   unfold askR at hx
   split at hx
   · exact ih (fun z hz => hl z (List.mem_cons_of_mem _ hz)) x hx
   · rw [List.map_cons] at hx
     rcases List.mem_cons.1 hx with rfl | hx
     · have := fm_size y.cd y.tx
       have := hl y List.mem_cons_self
       simp only []
       omega
     · exact ih (fun z hz => hl z (List.mem_cons_of_mem _ hz)) x hx
 refine hm _ (fun y hy => ?_)
 obtain ⟨j, hj, e⟩ := List.getElem_of_mem (List.mem_of_mem_take hy)
 have := (h j).2
 simp only [List.getD, List.getElem?_eq_getElem hj, Option.getD_some] at this
 rw [← e]
 exact this
theorem lc_app {V V1 V2 V5 : World} {N A : Nat} {W0 : Int} {ts : List ByteArray} {g c : Nat} {P : List R3} {a2 a5 a6 : Option Addr} {c2 c5 c6 : Nat} {vs : List Value} {y : R3} (h : LC V N A W0 ts g c P a2 c2 vs V1) {n : Nat} (hn : y.gs.length = n) (h12 : Below V1.heap.size V1 V2) (h5 : V2.ownsRow V1.heap.size 92 3 (.slice a5 n c5) n (gC y.gs))
 (hown : V5.ownsRow N 67 3 (.slice a6 (P.length + 1) c6) (P.length + 1) (rC P vs ++ [.string y.key, (.slice a5 n c5), .string y.out])) (hgrow : (V2.alloc (.cells #[.string y.key, .slice a5 n c5, .string y.out] 67)).grownBy V5 (Value.slice a2 P.length c2).ownBlock) :
 LC V N A W0 ts g c (P ++ [y]) a6 c6 (vs ++ [.slice a5 n c5]) (V5.setCell ⟨A, 2, none⟩ (.slice a6 (P.length + 1) c6)) := by
 subst hn
 have hA := ofT_lt h.t1
 have hNA := h.na
 have s12 := h12.size
 have s4 : (V2.alloc (.cells #[.string y.key, .slice a5 y.gs.length c5, .string y.out] 67)).heap.size = V2.heap.size + 1 := by simp
 have s5 := hgrow.size
 have sT : (V5.setCell ⟨A, 2, none⟩ (.slice a6 (P.length + 1) c6)).heap.size = V5.heap.size := by simp
 have hrl : ∀ k, (Value.slice a2 P.length c2).ownBlock = some k → k < V1.heap.size := fun k e => own_lt h.rc.row e
 have neS : some A ≠ (Value.slice a2 P.length c2).ownBlock := fun e => absurd (ofT_one h.t1 (own_ofT h.rc.row e.symm)) (by decide)
 have H2 : ∀ k, k < V2.heap.size → k ≠ A → (Value.slice a2 P.length c2).ownBlock ≠ some k → (V5.setCell ⟨A, 2, none⟩ (.slice a6 (P.length + 1) c6)).heap[k]? = V2.heap[k]? := fun k hk hkS hkr => by
  rw [Below.heap_setCell _ _ _ _ (by exact hkS)]
  refine (hgrow.block k (by omega) (fun e => hkr e.symm)).trans ?_
  exact Below.heap_alloc _ _ k hk
 have H1 : ∀ k, k < V1.heap.size → k ≠ A → (Value.slice a2 P.length c2).ownBlock ≠ some k → (V5.setCell ⟨A, 2, none⟩ (.slice a6 (P.length + 1) c6)).heap[k]? = V1.heap[k]? := fun k hk hkS hkr => (H2 k (by omega) hkS hkr).trans (h12.block k hk)
 have HT : ∀ k t, OfT V1 k t → t ≠ 67 → t ≠ 37 → (V5.setCell ⟨A, 2, none⟩ (.slice a6 (P.length + 1) c6)).heap[k]? = V1.heap[k]? := fun k t hT ht ht2 => by
  refine H1 k (ofT_lt hT) (fun e => ht2 ?_) (fun e => ht ?_)
  · subst e; exact ofT_one hT h.t1
  · exact ofT_one hT (own_ofT h.rc.row e)
 have b4 : BlkAt (V2.alloc (.cells #[.string y.key, .slice a5 y.gs.length c5, .string y.out] 67)) A [.int .i64 W0, .slice (some ⟨g, 0, none⟩) ts.length c, .slice a2 P.length c2] := (h.bl.below h12 (by omega)).below (N := V2.heap.size) ((Below.refl _ _).alloc (by simp) _) (by omega)
 have o4 : OpnAt (V2.alloc (.cells #[.string y.key, .slice a5 y.gs.length c5, .string y.out] 67)) A := (h.op.below h12 (by omega)).below (N := V2.heap.size) ((Below.refl _ _).alloc (by simp) _) (by omega)
 have b5 := blk_kept b4 hgrow (by omega) neS
 have o5 := opn_kept o4 hgrow (by omega) neS
 have b6 : BlkAt (V5.setCell ⟨A, 2, none⟩ (.slice a6 (P.length + 1) c6)) A [.int .i64 W0, .slice (some ⟨g, 0, none⟩) ts.length c, .slice a6 (P.length + 1) c6] := b5.set 2 _ (by simp)
 have t4 : OfT V5 A 37 := by
  obtain ⟨cur, fr, e⟩ := h.t1
  refine ⟨cur, fr, (hgrow.block _ (by omega) neS).trans ((Below.heap_alloc _ _ _ (by omega)).trans ?_)⟩
  exact (h12.block _ (by omega)).trans e
 have bT : Below N V (V5.setCell ⟨A, 2, none⟩ (.slice a6 (P.length + 1) c6)) := ⟨(hgrow.os.trans (h12.os)).trans h.bw.os, (hgrow.tape.trans (h12.tape)).trans h.bw.tape, (hgrow.output.trans (h12.output)).trans h.bw.output, by have := h.bw.size; omega, fun k hk => (H1 k (by omega) (by omega) (fun e => by have := own_blk h.rc.row e; omega)).trans (h.bw.block k hk)⟩
 have h5T : (V5.setCell ⟨A, 2, none⟩ (.slice a6 (P.length + 1) c6)).ownsRow N 92 3 (.slice a5 y.gs.length c5) y.gs.length (gC y.gs) := own_low (own_keep' h5 (fun q hq => H2 q (own_lt h5 hq) (fun e => by have := own_blk h5 hq; omega) (fun e => by have := hrl q e; have := own_blk h5 hq; omega))) (by omega)
 have e1 : (P ++ [y]).length = P.length + 1 := by simp
 refine ⟨by rw [e1]; exact b6, ?_, own_keep' h.tr (fun q hq => HT q 9 (own_ofT h.tr hq) (by decide) (by decide)), o5.set _ _, ofT_set t4 2 _, hNA, bT⟩
 rw [e1]
 refine rec_push h.rc h5T (own_keep' hown (fun q hq => Below.heap_setCell _ _ _ _ (fun e => ?_))) (fun q hq => HT q 92 hq (by decide) (by decide)) (fun q hq => own_blk h5 hq)
 have e' : q = A := e
 exact absurd (ofT_one (own_ofT hown hq) (e' ▸ t4)) (by decide)
theorem mem_iff_at {rs : List R3} {x : R3} {b : Bool} (h : b = true ↔ ∃ j, j < rs.length ∧ rs.getD j r3z = x) : b = true ↔ x ∈ rs := by
 rw [h]
 constructor
 · rintro ⟨j, hj, e⟩
   simp only [List.getD, List.getElem?_eq_getElem hj, Option.getD_some] at e
   rw [← e]
   exact List.getElem_mem hj
 · intro hm
   obtain ⟨j, hj, e⟩ := List.getElem_of_mem hm
   refine ⟨j, hj, ?_⟩
   simp only [List.getD, List.getElem?_eq_getElem hj, Option.getD_some]
   exact e
theorem keepF_3 {s : St} {m : M3} {ls : List L4} {c : Int} {t : ByteArray} {T : List ByteArray} (h : StOk s) (h2 : RanOk m ls c t) (h3 : putAll s.wd (fmL ls c t) (s.ts, true) = (T, false)) : keepF s m ls c t = (st0, 3) := by
 simp [keepF, h, h2, h3]
theorem keepF_4 {s : St} {m : M3} {ls : List L4} {c : Int} {t : ByteArray} {T : List ByteArray} {P : List R3} (h : StOk s) (h2 : RanOk m ls c t) (h3 : putAll s.wd (fmL ls c t) (s.ts, true) = (T, true)) (h4 : putR s.rs (recR s.wd m ls c t) = P) (h5 : 300 < T.length ∨ 150 < P.length) : keepF s m ls c t = (st0, 4) := by
 simp only [keepF, h, h2, h3, h4, h5, not_true_eq_false, if_false, if_true]
 simp
theorem keepF_0 {s : St} {m : M3} {ls : List L4} {c : Int} {t : ByteArray} {T : List ByteArray} {P : List R3} (h : StOk s) (h2 : RanOk m ls c t) (h3 : putAll s.wd (fmL ls c t) (s.ts, true) = (T, true)) (h4 : putR s.rs (recR s.wd m ls c t) = P) (h5 : ¬ 300 < T.length) (h6 : ¬ 150 < P.length) : keepF s m ls c t = (⟨s.wd, T, P⟩, 0) := by
 simp [keepF, h, h2, h3, h4, h5, h6]
set_option maxHeartbeats 8000000 in
theorem c8 (s : St) (m : M3) (ls : List L4) (c : Int) (t : ByteArray) (tb : Nat) (ra la : Option Addr) (tc rc lc : Nat) (w : World) (hs : s.le 1048576) (hm : m.le 1048576) (hl : ls.length ≤ 1048576) (hls : ∀ i, (ls.getD i l4z).le 1048576) (ht : t.size ≤ 1048576) (hst : StrsAt w (some ⟨tb, 0, none⟩) s.ts) (hre : RecsAtS w ra s.rs) (hla : LksAt w la ls) :
 Calls Tryz.prog 8 #[.agg #[.int .i64 s.wd, .slice (some ⟨tb, 0, none⟩) s.ts.length tc, .slice ra s.rs.length rc], .agg #[.string m.nm, .string m.tl, .string m.ar], .slice la ls.length lc, .agg #[.int .i64 c, .string t]] w fun e w' => IsKeep s m ls c t w.heap.size w' e ∧ Below w.heap.size w w' := by
 have BW0 : Below w.heap.size w ((((w.alloc (.cells #[.int .i64 s.wd, .slice (some ⟨tb, 0, none⟩) s.ts.length tc, .slice ra s.rs.length rc] 37)).alloc (.cells #[.string m.nm, .string m.tl, .string m.ar] 41)).alloc (.cells #[.int .i64 c, .string t] 45)).alloc (.cells #[.int .i64 0, .slice none 0 0, .slice none 0 0] 37)) := ((((Below.refl _ _).alloc (Nat.le_refl _) _).alloc (by simp) _).alloc (by simp; omega) _).alloc (by simp; omega) _
 have s0 : ((((w.alloc (.cells #[.int .i64 s.wd, .slice (some ⟨tb, 0, none⟩) s.ts.length tc, .slice ra s.rs.length rc] 37)).alloc (.cells #[.string m.nm, .string m.tl, .string m.ar] 41)).alloc (.cells #[.int .i64 c, .string t] 45)).alloc (.cells #[.int .i64 0, .slice none 0 0, .slice none 0 0] 37)).heap.size = w.heap.size + 4 := by simp
 have z1 : (w.alloc (.cells #[.int .i64 s.wd, .slice (some ⟨tb, 0, none⟩) s.ts.length tc, .slice ra s.rs.length rc] 37)).heap.size = w.heap.size + 1 := by simp
 have z2 : ((w.alloc (.cells #[.int .i64 s.wd, .slice (some ⟨tb, 0, none⟩) s.ts.length tc, .slice ra s.rs.length rc] 37)).alloc (.cells #[.string m.nm, .string m.tl, .string m.ar] 41)).heap.size = w.heap.size + 2 := by simp
 have z3 : (((w.alloc (.cells #[.int .i64 s.wd, .slice (some ⟨tb, 0, none⟩) s.ts.length tc, .slice ra s.rs.length rc] 37)).alloc (.cells #[.string m.nm, .string m.tl, .string m.ar] 41)).alloc (.cells #[.int .i64 c, .string t] 45)).heap.size = w.heap.size + 3 := by simp
 have hb1 : Below (w.heap.size + 1) (w.alloc (.cells #[.int .i64 s.wd, .slice (some ⟨tb, 0, none⟩) s.ts.length tc, .slice ra s.rs.length rc] 37)) ((((w.alloc (.cells #[.int .i64 s.wd, .slice (some ⟨tb, 0, none⟩) s.ts.length tc, .slice ra s.rs.length rc] 37)).alloc (.cells #[.string m.nm, .string m.tl, .string m.ar] 41)).alloc (.cells #[.int .i64 c, .string t] 45)).alloc (.cells #[.int .i64 0, .slice none 0 0, .slice none 0 0] 37)) := (((Below.refl _ _).alloc (by simp) _).alloc (by simp) _).alloc (by simp) _
 have hb2 : Below (w.heap.size + 2) ((w.alloc (.cells #[.int .i64 s.wd, .slice (some ⟨tb, 0, none⟩) s.ts.length tc, .slice ra s.rs.length rc] 37)).alloc (.cells #[.string m.nm, .string m.tl, .string m.ar] 41)) ((((w.alloc (.cells #[.int .i64 s.wd, .slice (some ⟨tb, 0, none⟩) s.ts.length tc, .slice ra s.rs.length rc] 37)).alloc (.cells #[.string m.nm, .string m.tl, .string m.ar] 41)).alloc (.cells #[.int .i64 c, .string t] 45)).alloc (.cells #[.int .i64 0, .slice none 0 0, .slice none 0 0] 37)) := ((Below.refl _ _).alloc (by simp) _).alloc (by simp) _
 have hb3 : Below (w.heap.size + 3) (((w.alloc (.cells #[.int .i64 s.wd, .slice (some ⟨tb, 0, none⟩) s.ts.length tc, .slice ra s.rs.length rc] 37)).alloc (.cells #[.string m.nm, .string m.tl, .string m.ar] 41)).alloc (.cells #[.int .i64 c, .string t] 45)) ((((w.alloc (.cells #[.int .i64 s.wd, .slice (some ⟨tb, 0, none⟩) s.ts.length tc, .slice ra s.rs.length rc] 37)).alloc (.cells #[.string m.nm, .string m.tl, .string m.ar] 41)).alloc (.cells #[.int .i64 c, .string t] 45)).alloc (.cells #[.int .i64 0, .slice none 0 0, .slice none 0 0] 37)) := (Below.refl _ _).alloc (by simp) _
 have BS0 : Hid (BlkAt ((((w.alloc (.cells #[.int .i64 s.wd, .slice (some ⟨tb, 0, none⟩) s.ts.length tc, .slice ra s.rs.length rc] 37)).alloc (.cells #[.string m.nm, .string m.tl, .string m.ar] 41)).alloc (.cells #[.int .i64 c, .string t] 45)).alloc (.cells #[.int .i64 0, .slice none 0 0, .slice none 0 0] 37)) w.heap.size [.int .i64 s.wd, .slice (some ⟨tb, 0, none⟩) s.ts.length tc, .slice ra s.rs.length rc]) := hidI ((blk_new w [.int .i64 s.wd, .slice (some ⟨tb, 0, none⟩) s.ts.length tc, .slice ra s.rs.length rc] 37).below hb1 (by omega))
 have BM0 : Hid (BlkAt ((((w.alloc (.cells #[.int .i64 s.wd, .slice (some ⟨tb, 0, none⟩) s.ts.length tc, .slice ra s.rs.length rc] 37)).alloc (.cells #[.string m.nm, .string m.tl, .string m.ar] 41)).alloc (.cells #[.int .i64 c, .string t] 45)).alloc (.cells #[.int .i64 0, .slice none 0 0, .slice none 0 0] 37)) (w.heap.size + 1) [.string m.nm, .string m.tl, .string m.ar]) := by have h := blk_new (w.alloc (.cells #[.int .i64 s.wd, .slice (some ⟨tb, 0, none⟩) s.ts.length tc, .slice ra s.rs.length rc] 37)) [.string m.nm, .string m.tl, .string m.ar] 41; rw [z1] at h; exact h.below hb2 (by omega)
 have BC0 : Hid (BlkAt ((((w.alloc (.cells #[.int .i64 s.wd, .slice (some ⟨tb, 0, none⟩) s.ts.length tc, .slice ra s.rs.length rc] 37)).alloc (.cells #[.string m.nm, .string m.tl, .string m.ar] 41)).alloc (.cells #[.int .i64 c, .string t] 45)).alloc (.cells #[.int .i64 0, .slice none 0 0, .slice none 0 0] 37)) (w.heap.size + 2) [.int .i64 c, .string t]) := by have h := blk_new ((w.alloc (.cells #[.int .i64 s.wd, .slice (some ⟨tb, 0, none⟩) s.ts.length tc, .slice ra s.rs.length rc] 37)).alloc (.cells #[.string m.nm, .string m.tl, .string m.ar] 41)) [.int .i64 c, .string t] 45; rw [z2] at h; exact h.below hb3 (by omega)
 have BZ0 : Hid (BlkAt ((((w.alloc (.cells #[.int .i64 s.wd, .slice (some ⟨tb, 0, none⟩) s.ts.length tc, .slice ra s.rs.length rc] 37)).alloc (.cells #[.string m.nm, .string m.tl, .string m.ar] 41)).alloc (.cells #[.int .i64 c, .string t] 45)).alloc (.cells #[.int .i64 0, .slice none 0 0, .slice none 0 0] 37)) (w.heap.size + 3) [.int .i64 0, .slice none 0 0, .slice none 0 0]) := by have h := blk_new (((w.alloc (.cells #[.int .i64 s.wd, .slice (some ⟨tb, 0, none⟩) s.ts.length tc, .slice ra s.rs.length rc] 37)).alloc (.cells #[.string m.nm, .string m.tl, .string m.ar] 41)).alloc (.cells #[.int .i64 c, .string t] 45)) [.int .i64 0, .slice none 0 0, .slice none 0 0] 37; rw [z3] at h; exact h
 have OZ0 : Hid (OpnAt ((((w.alloc (.cells #[.int .i64 s.wd, .slice (some ⟨tb, 0, none⟩) s.ts.length tc, .slice ra s.rs.length rc] 37)).alloc (.cells #[.string m.nm, .string m.tl, .string m.ar] 41)).alloc (.cells #[.int .i64 c, .string t] 45)).alloc (.cells #[.int .i64 0, .slice none 0 0, .slice none 0 0] 37)) (w.heap.size + 3)) := by have h := opn_new (((w.alloc (.cells #[.int .i64 s.wd, .slice (some ⟨tb, 0, none⟩) s.ts.length tc, .slice ra s.rs.length rc] 37)).alloc (.cells #[.string m.nm, .string m.tl, .string m.ar] 41)).alloc (.cells #[.int .i64 c, .string t] 45)) #[.int .i64 0, .slice none 0 0, .slice none 0 0] 37; rw [z3] at h; exact h
 have y0 := BS0.out 0 _ rfl
 have y1 := BS0.out 1 _ rfl
 have y2 := BS0.out 2 _ rfl
 have HT := hidI hst
 have HR := hidI hre
 have HL := hidI hla
 have h22 := c22 (some ⟨tb, 0, none⟩) ra tc rc s _ hs ((stAt_of hst hre).below BW0)
 have S0 := hidI s0
 clear hst hre hla hb1 hb2 hb3 z1 z2 z3 s0
 obtain ⟨iR, hi1, jz0, jz1, jz2⟩ := info_parts' info67'
 go_enter Tryz.func8, Tryz.ntmps8
 go_wp2_with fail
 refine h22.mono ?_
 rintro e w1 ⟨⟨bo, rfl, hbo⟩, hb1⟩
 clear h22
 generalize ((((w.alloc (.cells #[.int .i64 s.wd, .slice (some ⟨tb, 0, none⟩) s.ts.length tc, .slice ra s.rs.length rc] 37)).alloc (.cells #[.string m.nm, .string m.tl, .string m.ar] 41)).alloc (.cells #[.int .i64 c, .string t] 45)).alloc (.cells #[.int .i64 0, .slice none 0 0, .slice none 0 0] 37)) = U3 at *
 rw [S0.out] at hb1
 have s1 : w.heap.size + 4 ≤ w1.heap.size := by have := hb1.size; rw [S0.out] at this; exact this
 have BW1 : Below w.heap.size w w1 := BW0.trans (hb1.mono (by omega))
 cases bo
 · have HK := hidI (keepF_no (m := m) (ls := ls) (c := c) (t := t) (fun h => absurd (hbo.2 h) (by decide)))
   clear hbo y0 y1 y2
   have p0 := (BZ0.out.below hb1 (by omega)) 0 _ rfl
   have p1 := (BZ0.out.below hb1 (by omega)) 1 _ rfl
   have p2 := (BZ0.out.below hb1 (by omega)) 2 _ rfl
   have o0 := (OZ0.out.below hb1 (by omega)) 0
   have o1 := (OZ0.out.below hb1 (by omega)) 1
   have o2 := (OZ0.out.below hb1 (by omega)) 2
   have ZT : BlkAt (((w1.setCell ⟨w.heap.size + 3, 0, none⟩ (.int .i64 0)).setCell ⟨w.heap.size + 3, 1, none⟩ (.slice none 0 0)).setCell ⟨w.heap.size + 3, 2, none⟩ (.slice none 0 0)) (w.heap.size + 3) [.int .i64 0, .slice none 0 0, .slice none 0 0] := (((BZ0.out.below hb1 (by omega)).set 0 _ (by simp)).set 1 _ (by simp)).set 2 _ (by simp)
   have e0 := ZT 0 _ rfl
   have e1 := ZT 1 _ rfl
   have e2 := ZT 2 _ rfl
   have BT : Below w.heap.size w (((w1.setCell ⟨w.heap.size + 3, 0, none⟩ (.int .i64 0)).setCell ⟨w.heap.size + 3, 1, none⟩ (.slice none 0 0)).setCell ⟨w.heap.size + 3, 2, none⟩ (.slice none 0 0)) := (((BW1).setCell (p := ⟨w.heap.size + 3, 0, none⟩) (by show w.heap.size ≤ w.heap.size + 3; omega) _).setCell (p := ⟨w.heap.size + 3, 1, none⟩) (by show w.heap.size ≤ w.heap.size + 3; omega) _).setCell (p := ⟨w.heap.size + 3, 2, none⟩) (by show w.heap.size ≤ w.heap.size + 3; omega) _
   clear ZT
   go_wp2
   refine bodyPost_ret (v := .tuple #[.agg #[.int .i64 0, .slice none 0 0, .slice none 0 0], .int .i64 1]) (by simp [results, Tryz.results8, go_sem, e0, e1, e2]) rfl ⟨isKeep_st0 HK.out, BT⟩
 · have HOK := hidI (hbo.1 rfl)
   have m0 := (BM0.out.below hb1 (by omega)) 0 _ rfl
   have m1 := (BM0.out.below hb1 (by omega)) 1 _ rfl
   have m2 := (BM0.out.below hb1 (by omega)) 2 _ rfl
   have q0 := (BC0.out.below hb1 (by omega)) 0 _ rfl
   have q1 := (BC0.out.below hb1 (by omega)) 1 _ rfl
   have h23 := c23 m ls c t la lc w1 hm hl hls ht (lks_below HL.out BW1)
   clear hbo y0 y1 y2
   go_wp2_with fail
   refine h23.mono ?_
   rintro e w2 ⟨⟨b2, rfl, hb2o⟩, hb2⟩
   clear h23 m0 m1 m2 q0 q1
   have k2 : Below (w.heap.size + 4) U3 w2 := hb1.trans (hb2.mono s1)
   have s2 : w.heap.size + 4 ≤ w2.heap.size := by have := k2.size; rw [S0.out] at this; exact this
   have BW2 : Below w.heap.size w w2 := BW0.trans (k2.mono (by omega))
   cases b2
   · have HK := hidI (keepF_two (s := s) HOK.out (show ¬ RanOk m ls c t from fun h => absurd (hb2o.2 h) (by decide)))
     clear hb2o
     have p0 := (BZ0.out.below k2 (by omega)) 0 _ rfl
     have p1 := (BZ0.out.below k2 (by omega)) 1 _ rfl
     have p2 := (BZ0.out.below k2 (by omega)) 2 _ rfl
     have o0 := (OZ0.out.below k2 (by omega)) 0
     have o1 := (OZ0.out.below k2 (by omega)) 1
     have o2 := (OZ0.out.below k2 (by omega)) 2
     have ZT : BlkAt (((w2.setCell ⟨w.heap.size + 3, 0, none⟩ (.int .i64 0)).setCell ⟨w.heap.size + 3, 1, none⟩ (.slice none 0 0)).setCell ⟨w.heap.size + 3, 2, none⟩ (.slice none 0 0)) (w.heap.size + 3) [.int .i64 0, .slice none 0 0, .slice none 0 0] := (((BZ0.out.below k2 (by omega)).set 0 _ (by simp)).set 1 _ (by simp)).set 2 _ (by simp)
     have e0 := ZT 0 _ rfl
     have e1 := ZT 1 _ rfl
     have e2 := ZT 2 _ rfl
     have BT : Below w.heap.size w (((w2.setCell ⟨w.heap.size + 3, 0, none⟩ (.int .i64 0)).setCell ⟨w.heap.size + 3, 1, none⟩ (.slice none 0 0)).setCell ⟨w.heap.size + 3, 2, none⟩ (.slice none 0 0)) := (((BW2).setCell (p := ⟨w.heap.size + 3, 0, none⟩) (by show w.heap.size ≤ w.heap.size + 3; omega) _).setCell (p := ⟨w.heap.size + 3, 1, none⟩) (by show w.heap.size ≤ w.heap.size + 3; omega) _).setCell (p := ⟨w.heap.size + 3, 2, none⟩) (by show w.heap.size ≤ w.heap.size + 3; omega) _
     clear ZT
     go_wp2
     refine bodyPost_ret (v := .tuple #[.agg #[.int .i64 0, .slice none 0 0, .slice none 0 0], .int .i64 2]) (by simp [results, Tryz.results8, go_sem, e0, e1, e2]) rfl ⟨isKeep_st0 HK.out, BT⟩
   · have HRK := hidI (hb2o.1 rfl)
     have x0 := (BS0.out.below k2 (by omega)) 0 _ rfl
     have x1 := (BS0.out.below k2 (by omega)) 1 _ rfl
     have x2 := (BS0.out.below k2 (by omega)) 2 _ rfl
     have h24 := c24 s tb ra tc rc w2 hs (strs_below HT.out BW2) (recsS_below HR.out BW2)
     clear hb2o
     go_wp2_with (refine h24.mono ?_; rintro e w3 ⟨⟨g3, c3, ra3, rc3, rfl, hso⟩, hb3⟩)
     clear h24 x0 x1 x2
     obtain ⟨hso1, vs, hso2⟩ := hso
     have k3 : Below (w.heap.size + 4) U3 w3 := k2.trans (hb3.mono s2)
     have s3 : w.heap.size + 4 ≤ w3.heap.size := by have := k3.size; rw [S0.out] at this; exact this
     have kA : Below w3.heap.size w3 (w3.alloc (.cells #[.int .i64 s.wd, .slice (some ⟨g3, 0, none⟩) s.ts.length c3, .slice ra3 s.rs.length rc3] 37)) := (Below.refl _ _).alloc (Nat.le_refl _) _
     have LC0 : Hid (LC U3 (w.heap.size + 4) w3.heap.size s.wd s.ts g3 c3 s.rs ra3 rc3 vs (w3.alloc (.cells #[.int .i64 s.wd, .slice (some ⟨g3, 0, none⟩) s.ts.length c3, .slice ra3 s.rs.length rc3] 37))) := hidI ⟨blk_new w3 [.int .i64 s.wd, .slice (some ⟨g3, 0, none⟩) s.ts.length c3, .slice ra3 s.rs.length rc3] 37, ⟨hso2.len, own_low (own_below hso2.row kA) s2, fun i hi => by
      obtain ⟨a3, c3', e, h3⟩ := hso2.gl i hi
      exact ⟨a3, c3', e, own_low (own_below h3 kA) s2⟩, hso2.apart⟩, own_low (own_below hso1 kA) s2, opn_new w3 #[.int .i64 s.wd, .slice (some ⟨g3, 0, none⟩) s.ts.length c3, .slice ra3 s.rs.length rc3] 37, ofT_new w3 #[.int .i64 s.wd, .slice (some ⟨g3, 0, none⟩) s.ts.length c3, .slice ra3 s.rs.length rc3] 37, s3, k3.alloc s3 _⟩
     have hAz : w.heap.size + 4 ≤ w3.heap.size := s3
     generalize hA : w3.heap.size = A at *
     clear hso1 hso2
     go_loopw [11, 12] (fun f i wr => ∃ (k : Nat) (T : List ByteArray) (b : Bool) (gg cc : Nat), k ≤ ls.length ∧ i = .int .i64 k ∧ f = .bool b ∧ Hid (putAll s.wd (fmK ls k) (s.ts, true) = (T, b)) ∧ Hid (LC U3 (w.heap.size + 4) A s.wd T gg cc s.rs ra3 rc3 vs wr)) (fun _ i _ => ls.length - (Go.RowKit.intOf i).toNat)
     case atStart => exact ⟨0, s.ts, true, g3, c3, Nat.zero_le _, rfl, rfl, by show _ = _; simp [fmK, askR, putAll], LC0⟩
     case round =>
      obtain ⟨k, T, b, gg, cc, hk, rfl, rfl, HPA, HLC⟩ := hrel
      have hbw : Below (w.heap.size + 4) U3 wr := HLC.out.bw
      have BWr : Below w.heap.size w wr := BW0.trans (hbw.mono (by omega))
      have hwr : w.heap.size + 4 ≤ wr.heap.size := by have := hbw.size; rw [S0.out] at this; exact this
      by_cases hlt : k < ls.length
      · rcases lks_below HL.out BWr with he | ⟨lb, lq, hla2, hlb, hcell⟩
        · rw [he] at hlt; exact absurd hlt (Nat.not_lt_zero _)
        subst hla2
        obtain ⟨l0, l1, l2, l3⟩ := hcell k hlt
        have htx := (hls k).2
        have HFN := hidI (fmK_next hlt)
        generalize ls.getD k l4z = x at *
        clear hcell
        cases hh : x.has
        · rw [hh] at l0
          obtain ⟨fm, hfm⟩ : ∃ fm, fmR x.cd x.tx = fm := ⟨_, rfl⟩
          have hfs : fm.size ≤ 1048700 := by rw [← hfm]; have := fm_size x.cd x.tx; omega
          obtain ⟨T', b', hp⟩ : ∃ T' b', putT s.wd fm T = (T', b') := ⟨_, _, rfl⟩
          have hTl : T.length ≤ 1000000 := by
           have h := putAll_len' s.wd (fmK ls k) (s.ts, true)
           rw [HPA.out] at h
           have := fmK_len ls k
           have := HOK.out.2.1.1
           have := HRK.out.2.1.1
           simp only [] at h
           omega
          have hTA : AscT s.wd T := by have h := putAll_asc (a := fmK ls k) (b := true) (asc_of_ok HOK.out); rw [HPA.out] at h; exact h
          have HNX : Hid (putAll s.wd (fmK ls (k + 1)) (s.ts, true) = (T', b && b')) := by
           have e := HFN.out
           rw [hh, hfm] at e
           have e2 : fmK ls (k + 1) = fmK ls k ++ [fm] := e
           show _ = _
           rw [e2, putAll_snoc, HPA.out]
           simp only []
           rw [hp]
          clear hh
          go_wp2_with fail
          refine r11 (N := w.heap.size + 4) HLC.out.bl (ofT_lt HLC.out.t1) hlb l2 l3 hfm (by omega) hfs hTA hTl (putAll_small HPA.out (fun i => Nat.le_trans (hs.1.2 i) (by omega)) (fmK_small hls k)) hp HLC.out.tr hwr hlt (fun _ _ _ _ _ h => h) ?_
          intro y44 y45 y46 y47 y48 y49 y50 y51 y52 y53 y54 g' c' B E kE hB1 hB2 ZB RE
          have HL2 := hidI (HLC.out.below kE)
          have j0 := ZB 0 _ rfl
          have j1 := ZB 1 _ rfl
          have j2 := ZB 2 _ rfl
          have i0 := HL2.out.bl 0 _ rfl
          have i1 := HL2.out.bl 1 _ rfl
          have i2 := HL2.out.bl 2 _ rfl
          have f0 := HL2.out.op 0
          have f1 := HL2.out.op 1
          have f2 := HL2.out.op 2
          have HX : Hid (LC U3 (w.heap.size + 4) A s.wd T' g' c' s.rs ra3 rc3 vs (((E.setCell ⟨A, 0, none⟩ (.int .i64 s.wd)).setCell ⟨A, 1, none⟩ (.slice (some ⟨g', 0, none⟩) T'.length c')).setCell ⟨A, 2, none⟩ (.slice ra3 s.rs.length rc3))) := hidI (lc_put HL2.out RE (fun k hk => (Below.heap_setCell _ _ _ _ (by exact hk)).trans ((Below.heap_setCell _ _ _ _ (by exact hk)).trans (Below.heap_setCell _ _ _ _ (by exact hk)))) (((HL2.out.bl.set 0 _ (by simp)).set 1 _ (by simp)).set 2 _ (by simp)) (((HL2.out.op.set _ _).set _ _).set _ _) (ofT_set (ofT_set (ofT_set HL2.out.t1 0 _) 1 _) 2 _) (((HL2.out.bw.setCell (p := ⟨A, 0, none⟩) hAz _).setCell (p := ⟨A, 1, none⟩) hAz _).setCell (p := ⟨A, 2, none⟩) hAz _))
          clear ZB RE
          cases b
          · go_wp2
            go_roundw
            case rel => exact ⟨k + 1, T', false, g', c', by omega, by go_num, rfl, HNX, HX⟩
            case measure => simp [Go.RowKit.intOf]; omega
          · go_wp2
            go_roundw
            case rel => exact ⟨k + 1, T', b', g', c', by omega, by go_num, rfl, HNX, HX⟩
            case measure => simp [Go.RowKit.intOf]; omega
        · rw [hh] at l0
          have HNX : Hid (putAll s.wd (fmK ls (k + 1)) (s.ts, true) = (T, b)) := by
           have e := HFN.out
           rw [hh] at e
           have e2 : fmK ls (k + 1) = fmK ls k := by rw [e]; simp
           show _ = _
           rw [e2]
           exact HPA.out
          clear hh
          go_wp2
          go_roundw
          case rel => exact ⟨k + 1, T, b, gg, cc, by omega, by go_num, rfl, HNX, HLC⟩
          case measure => simp [Go.RowKit.intOf]; omega
      · obtain rfl : k = ls.length := by omega
        obtain ⟨fm, hfm⟩ : ∃ fm, fmR c t = fm := ⟨_, rfl⟩
        have hfs : fm.size ≤ 1048700 := by rw [← hfm]; have := fm_size c t; omega
        obtain ⟨T', b', hp⟩ : ∃ T' b', putT s.wd fm T = (T', b') := ⟨_, _, rfl⟩
        have hTl : T.length ≤ 1000000 := by
         have h := putAll_len' s.wd (fmK ls ls.length) (s.ts, true)
         rw [HPA.out] at h
         have := fmK_len ls ls.length
         have := HOK.out.2.1.1
         have := HRK.out.2.1.1
         simp only [] at h
         omega
        have hTA : AscT s.wd T := by have h := putAll_asc (a := fmK ls ls.length) (b := true) (asc_of_ok HOK.out); rw [HPA.out] at h; exact h
        have HNX : Hid (putAll s.wd (fmL ls c t) (s.ts, true) = (T', b && b')) := by
         show _ = _
         rw [fmL_K, hfm, putAll_snoc, HPA.out]
         simp only []
         rw [hp]
        have q0 := (BC0.out.below hbw (by omega)) 0 _ rfl
        have q1 := (BC0.out.below hbw (by omega)) 1 _ rfl
        go_wp2_with fail
        refine r14 (N := w.heap.size + 4) HLC.out.bl (ofT_lt HLC.out.t1) (by omega) q0 q1 hfm (by omega) hfs hTA hTl (putAll_small HPA.out (fun i => Nat.le_trans (hs.1.2 i) (by omega)) (fmK_small hls ls.length)) hp HLC.out.tr hwr (fun _ _ _ _ _ h => h) ?_
        intro y60 y61 y62 y63 y64 y65 y66 g' c' B E kE hB1 hB2 ZB RE
        have HL2 := hidI (HLC.out.below kE)
        have j0 := ZB 0 _ rfl
        have j1 := ZB 1 _ rfl
        have j2 := ZB 2 _ rfl
        have i0 := HL2.out.bl 0 _ rfl
        have i1 := HL2.out.bl 1 _ rfl
        have i2 := HL2.out.bl 2 _ rfl
        have f0 := HL2.out.op 0
        have f1 := HL2.out.op 1
        have f2 := HL2.out.op 2
        have HX : Hid (LC U3 (w.heap.size + 4) A s.wd T' g' c' s.rs ra3 rc3 vs (((E.setCell ⟨A, 0, none⟩ (.int .i64 s.wd)).setCell ⟨A, 1, none⟩ (.slice (some ⟨g', 0, none⟩) T'.length c')).setCell ⟨A, 2, none⟩ (.slice ra3 s.rs.length rc3))) := hidI (lc_put HL2.out RE (fun k hk => (Below.heap_setCell _ _ _ _ (by exact hk)).trans ((Below.heap_setCell _ _ _ _ (by exact hk)).trans (Below.heap_setCell _ _ _ _ (by exact hk)))) (((HL2.out.bl.set 0 _ (by simp)).set 1 _ (by simp)).set 2 _ (by simp)) (((HL2.out.op.set _ _).set _ _).set _ _) (ofT_set (ofT_set (ofT_set HL2.out.t1 0 _) 1 _) 2 _) (((HL2.out.bw.setCell (p := ⟨A, 0, none⟩) hAz _).setCell (p := ⟨A, 1, none⟩) hAz _).setCell (p := ⟨A, 2, none⟩) hAz _))
        clear ZB RE
        have hwE : w.heap.size + 4 ≤ (((E.setCell ⟨A, 0, none⟩ (.int .i64 s.wd)).setCell ⟨A, 1, none⟩ (.slice (some ⟨g', 0, none⟩) T'.length c')).setCell ⟨A, 2, none⟩ (.slice ra3 s.rs.length rc3)).heap.size := by have := HX.out.bw.size; rw [S0.out] at this; exact this
        have m0 := (BM0.out.below HX.out.bw (by omega)) 0 _ rfl
        have m1 := (BM0.out.below HX.out.bw (by omega)) 1 _ rfl
        have m2 := (BM0.out.below HX.out.bw (by omega)) 2 _ rfl
        have v0 := (BC0.out.below HX.out.bw (by omega)) 0 _ rfl
        have v1 := (BC0.out.below HX.out.bw (by omega)) 1 _ rfl
        have x0 := (BS0.out.below HX.out.bw (by omega)) 0 _ rfl
        have h27 := c27 m ls c t s.wd la lc (((E.setCell ⟨A, 0, none⟩ (.int .i64 s.wd)).setCell ⟨A, 1, none⟩ (.slice (some ⟨g', 0, none⟩) T'.length c')).setCell ⟨A, 2, none⟩ (.slice ra3 s.rs.length rc3)) ⟨Nat.le_trans hm.1 (by omega), Nat.le_trans hm.2.1 (by omega), Nat.le_trans hm.2.2 (by omega)⟩ (by omega) (by have h := hfs; rw [← hfm] at h; exact h) hl (fun i => ⟨Nat.le_trans (hls i).2 (by omega), gl_size (hls i).2⟩) (lks_below HL.out (BW0.trans (HX.out.bw.mono (by omega))))
        cases b
        · go_wp2_with fail
          refine h27.mono ?_
          rintro e w5 ⟨⟨v5, rfl, hv5⟩, hb5⟩
          obtain ⟨a5, c5, rfl⟩ := row_form hv5
          rw [glC_gC] at hv5
          have HV5 := hidI hv5
          have L5 := hidI (HX.out.below hb5)
          clear h27 hv5 m0 m1 m2 v0 v1 x0
          generalize hsm : sumS (ofL (formR c t.data.toList)) s.wd = sm at *
          have HSM := hidI hsm
          clear hsm
          have L6 := hidI (L5.out.below (W' := (w5.alloc (.cells #[.string (keyR m), .slice a5 ls.length c5, .string sm] 67))) ((Below.refl _ _).alloc (Nat.le_refl _) _))
          have BR6 := hidI (blk_new w5 [.string (keyR m), .slice a5 ls.length c5, .string sm] 67)
          go_wp2_with fail
          have HGL := hidI (gls_row (gs := ls.map (recG s.wd)) (c := c5) (by rw [List.length_map]; exact HV5.out))
          have HR0 : Hid (recR s.wd m ls c t = ⟨keyR m, ls.map (recG s.wd), sm⟩) := hidI (by rw [← HSM.out]; rfl)
          have s5 : w5.heap.size + 1 = (w5.alloc (.cells #[.string (keyR m), .slice a5 ls.length c5, .string sm] 67)).heap.size := by simp
          have bw56 : Below w5.heap.size w5 (w5.alloc (.cells #[.string (keyR m), .slice a5 ls.length c5, .string sm] 67)) := (Below.refl _ _).alloc (Nat.le_refl _) _
          generalize (w5.alloc (.cells #[.string (keyR m), .slice a5 ls.length c5, .string sm] 67)) = E6 at *
          go_loopw [18, 19] (fun th i wr => ∃ (k : Nat) (b2 : Bool), k ≤ s.rs.length ∧ th = .bool b2 ∧ i = .int .i64 k ∧ Hid (b2 = true ↔ ∃ j, j < k ∧ s.rs.getD j r3z = ⟨keyR m, ls.map (recG s.wd), sm⟩) ∧ Below E6.heap.size E6 wr) (fun _ i _ => s.rs.length - (Go.RowKit.intOf i).toNat)
          case atStart => exact ⟨0, false, Nat.zero_le _, rfl, rfl, by show _ ↔ _; simp, Below.refl _ _⟩
          case round =>
           obtain ⟨k, b2, hk, rfl, rfl, hq, hbr⟩ := hrel
           have HLr := hidI (L6.out.below hbr)
           have hAw : A < wr.heap.size := ofT_lt HLr.out.t1
           have hsl := hs.2.1
           have h5w : w5.heap.size < wr.heap.size := by have := hbr.size; omega
           by_cases hlt : k < s.rs.length
           · have o2 := HLr.out.bl 2 _ rfl
             rcases recs_own HLr.out.rc with he | ⟨rb, ro, hra, hrb, hcell⟩
             · rw [he] at hlt; exact absurd hlt (Nat.not_lt_zero _)
             subst hra
             have hrx := hs.2.2 k
             obtain ⟨ai, ci, g0, g1, g2, g3⟩ := hcell k hlt
             clear hcell
             have t0 := (BR6.out.below hbr (by omega)) 0 _ rfl
             have t1 := (BR6.out.below hbr (by omega)) 1 _ rfl
             have t2 := (BR6.out.below hbr (by omega)) 2 _ rfl
             cases b2
             · have h28 := c28 (s.rs.getD k r3z) ⟨keyR m, ls.map (recG s.wd), sm⟩ ai a5 ci c5 wr.drew hrx.2.1 (by simpa using hl) (gls_below g3 (Below.refl _ _).drew) (gls_below HGL.out ((bw56.trans (hbr.mono (by omega))).trans ((Below.refl wr.heap.size wr).drew.mono (by omega))))
               simp only [List.length_map] at h28
               have HQ : Hid (∀ bo : Bool, (bo = true ↔ s.rs.getD k r3z = ⟨keyR m, ls.map (recG s.wd), sm⟩) → (bo = true ↔ ∃ j, j < k + 1 ∧ s.rs.getD j r3z = ⟨keyR m, ls.map (recG s.wd), sm⟩)) := fun bo hbo => by
                rw [hbo]
                constructor
                · intro e; exact ⟨k, by omega, e⟩
                · rintro ⟨j, hj, e⟩
                  rcases Nat.lt_or_ge j k with h | h
                  · exact absurd (hq.out.2 ⟨j, h, e⟩) (by decide)
                  · obtain rfl : j = k := by omega
                    exact e
               generalize s.rs.getD k r3z = x at *
               clear hrx hq
               go_wp2_with fail
               refine wp_region_held_drew (S := (fun u => u.cell? ⟨A, 2, none⟩ = some (.slice (some ⟨rb, ro, none⟩) s.rs.length rc3) ∧ u.cell? ⟨rb, ro + k * 3, none⟩ = some (.string x.key) ∧ u.cell? ⟨rb, ro + k * 3 + 1, none⟩ = some (.slice ai x.gs.length ci) ∧ u.cell? ⟨rb, ro + k * 3 + 2, none⟩ = some (.string x.out) ∧ u.cell? ⟨w5.heap.size, 0, none⟩ = some (.string (keyR m)) ∧ u.cell? ⟨w5.heap.size, 1, none⟩ = some (.slice a5 ls.length c5) ∧ u.cell? ⟨w5.heap.size, 2, none⟩ = some (.string sm))) (by kernel_rfl) ?_ (fun hHeld => ?_)
               · ((try dsimp only); first | exact ⟨o2, g0, g1, g2, t0, t1, t2⟩ | exact ⟨(hb7.cell (p := ⟨A, 2, none⟩) hAw).trans o2, (hb7.cell (p := ⟨rb, ro + k * 3, none⟩) hrb).trans g0, (hb7.cell (p := ⟨rb, ro + k * 3 + 1, none⟩) hrb).trans g1, (hb7.cell (p := ⟨rb, ro + k * 3 + 2, none⟩) hrb).trans g2, (hb7.cell (p := ⟨w5.heap.size, 0, none⟩) h5w).trans t0, (hb7.cell (p := ⟨w5.heap.size, 1, none⟩) h5w).trans t1, (hb7.cell (p := ⟨w5.heap.size, 2, none⟩) h5w).trans t2⟩)
               refine wpAnyH_take (i := 0) (oi := ⟨some 85, .move (.tmp 18), 4, "l5_store.go:193", #[], none⟩) (v := ?_) rfl (by kernel_rfl) (by kernel_rfl) (by kernel_rfl) (fun _ _ _ h => h) (Or.inl ⟨by rfl, ?_⟩) (by assumption) ?_
               rotate_left
               · intro wq hSw
                 (try dsimp only at hSw)
                 go_simp
                 try with_reducible rfl
               try simp only [Act.put, qA, qB, qC]
               refine wpAnyH_take (i := 1) (oi := ⟨some 86, .move (.tmp 85), 4, "l5_store.go:193", #[⟨0, .data⟩], none⟩) (v := ?_) rfl (by kernel_rfl) (by kernel_rfl) (by kernel_rfl) (fun _ _ _ h => h) (Or.inl ⟨by rfl, ?_⟩) (by assumption) ?_
               rotate_left
               · intro wq hSw
                 (try dsimp only at hSw)
                 go_simp
                 try with_reducible rfl
               try simp only [Act.put, qA, qB, qC]
               refine wpAnyH_take (i := 2) (oi := ⟨some 87, .fieldAddr 37 (.tmp 10) 2, 0, "l5_store.go:193", #[⟨1, .guard⟩], some (1, false)⟩) (v := ?_) rfl (by kernel_rfl) (by kernel_rfl) (by kernel_rfl) (fun _ _ _ h => h) (Or.inl ⟨by rfl, ?_⟩) (by assumption) ?_
               rotate_left
               · intro wq hSw
                 (try dsimp only at hSw)
                 go_simp
                 try with_reducible rfl
               try simp only [Act.put, qA, qB, qC]
               refine wpAnyH_take (i := 3) (oi := ⟨some 88, .load 35 (.tmp 87), 35, "l5_store.go:193", #[⟨2, .data⟩, ⟨1, .guard⟩], some (1, false)⟩) (v := ?_) rfl (by kernel_rfl) (by kernel_rfl) (by kernel_rfl) (fun _ _ _ h => h) (Or.inl ⟨by rfl, ?_⟩) (by assumption) ?_
               rotate_left
               · intro wq hSw
                 (try dsimp only at hSw)
                 go_simp
                 try with_reducible rfl
               try simp only [Act.put, qA, qB, qC]
               refine wpAnyH_take (i := 4) (oi := ⟨some 89, .move (.tmp 19), 3, "l5_store.go:193", #[⟨1, .guard⟩], some (1, false)⟩) (v := ?_) rfl (by kernel_rfl) (by kernel_rfl) (by kernel_rfl) (fun _ _ _ h => h) (Or.inl ⟨by rfl, ?_⟩) (by assumption) ?_
               rotate_left
               · intro wq hSw
                 (try dsimp only at hSw)
                 go_simp
                 try with_reducible rfl
               try simp only [Act.put, qA, qB, qC]
               refine wpAnyH_take (i := 5) (oi := ⟨some 90, .indexAddr 35 (.tmp 88) (.tmp 89), 0, "l5_store.go:193", #[⟨3, .data⟩, ⟨4, .data⟩, ⟨1, .guard⟩], some (1, false)⟩) (v := ?_) rfl (by kernel_rfl) (by kernel_rfl) (by kernel_rfl) (fun _ _ _ h => h) (Or.inl ⟨by rfl, ?_⟩) (by assumption) ?_
               rotate_left
               · intro wq hSw
                 (try dsimp only at hSw)
                 go_simp
                 try with_reducible rfl
               try simp only [Act.put, qA, qB, qC]
               refine wpAnyH_take (i := 6) (oi := ⟨some 91, .load 67 (.tmp 90), 67, "l5_store.go:193", #[⟨5, .data⟩, ⟨1, .guard⟩], some (1, false)⟩) (v := ?_) rfl (by kernel_rfl) (by kernel_rfl) (by kernel_rfl) (fun _ _ _ h => h) (Or.inl ⟨by rfl, ?_⟩) (by assumption) ?_
               rotate_left
               · intro wq hSw
                 (try dsimp only at hSw)
                 go_simp
                 try with_reducible rfl
               try simp only [Act.put, qA, qB, qC]
               refine wpAnyH_take (i := 7) (oi := ⟨some 92, .load 67 (.tmp 17), 67, "l5_store.go:193", #[⟨1, .guard⟩], some (1, false)⟩) (v := ?_) rfl (by kernel_rfl) (by kernel_rfl) (by kernel_rfl) (fun _ _ _ h => h) (Or.inl ⟨by rfl, ?_⟩) (by assumption) ?_
               rotate_left
               · intro wq hSw
                 (try dsimp only at hSw)
                 go_simp
                 try with_reducible rfl
               try simp only [Act.put, qA, qB, qC]
               refine wpAnyH_ready (rs := [8]) (by kernel_rfl) (by simp) ?_
               refine AllReadyH.cons (o := ⟨some 93, .call ⟨.value (.func 28), #[.tmp 91, .tmp 92], #[67, 67]⟩, 4, "l5_store.go:193", #[⟨6, .data⟩, ⟨7, .data⟩, ⟨1, .chain⟩, ⟨1, .guard⟩], some (1, false)⟩) rfl (fun K hK => ?_) AllReadyH.nil
               go_simp
               refine h28.mono ?_
               rintro e w7 ⟨⟨bo, rfl, hbo⟩, hb70⟩
               have hb7 := (Below.refl wr.heap.size wr).drew.trans hb70
               go_wp2_with fail
               clear hHeld
               refine hK.out _ _ ?_ (fun hHeld => ?_)
               · ((try dsimp only); first | exact ⟨o2, g0, g1, g2, t0, t1, t2⟩ | exact ⟨(hb7.cell (p := ⟨A, 2, none⟩) hAw).trans o2, (hb7.cell (p := ⟨rb, ro + k * 3, none⟩) hrb).trans g0, (hb7.cell (p := ⟨rb, ro + k * 3 + 1, none⟩) hrb).trans g1, (hb7.cell (p := ⟨rb, ro + k * 3 + 2, none⟩) hrb).trans g2, (hb7.cell (p := ⟨w5.heap.size, 0, none⟩) h5w).trans t0, (hb7.cell (p := ⟨w5.heap.size, 1, none⟩) h5w).trans t1, (hb7.cell (p := ⟨w5.heap.size, 2, none⟩) h5w).trans t2⟩)
               clear hK K
               try simp only [Act.put, qA, qB, qC]
               refine wpAnyH_take (i := 9) (oi := ⟨some 94, .pick (.tmp 86) (.const (.bool true)) (.tmp 93), 4, "l5_store.go:193", #[⟨1, .data⟩, ⟨8, .data⟩], none⟩) (v := ?_) rfl (by kernel_rfl) (by kernel_rfl) (by kernel_rfl) (fun _ _ _ h => h) (Or.inl ⟨by rfl, ?_⟩) (by assumption) ?_
               rotate_left
               · intro wq hSw
                 (try dsimp only at hSw)
                 go_simp
                 try with_reducible rfl
               try simp only [Act.put, qA, qB, qC]
               refine wpAnyH_take (i := 10) (oi := ⟨some 18, .assign (.tmp 94), 4, "l5_store.go:193", #[⟨9, .data⟩, ⟨8, .chain⟩, ⟨0, .phase⟩, ⟨1, .phase⟩, ⟨2, .phase⟩, ⟨3, .phase⟩, ⟨4, .phase⟩, ⟨5, .phase⟩, ⟨6, .phase⟩, ⟨7, .phase⟩, ⟨8, .phase⟩, ⟨9, .phase⟩], none⟩) (v := ?_) rfl (by kernel_rfl) (by kernel_rfl) (by kernel_rfl) (fun _ _ _ h => h) (Or.inl ⟨by rfl, ?_⟩) (by assumption) ?_
               rotate_left
               · intro wq hSw
                 (try dsimp only at hSw)
                 go_simp
                 try with_reducible rfl
               try simp only [Act.put, qA, qB, qC]
               refine wpAnyH_done (by kernel_rfl) ?_ _
               go_wp2
               go_roundw
               case rel => exact ⟨k + 1, bo, by omega, rfl, by go_num, HQ.out bo hbo, hbr.trans (hb7.mono hbr.size)⟩
               case measure => simp [Go.RowKit.intOf]; omega
             · have HQ : Hid (∃ j, j < k + 1 ∧ s.rs.getD j r3z = ⟨keyR m, ls.map (recG s.wd), sm⟩) := by
                obtain ⟨j, hj, e⟩ := hq.out.1 rfl
                exact ⟨j, by omega, e⟩
               clear hrx hq g3
               go_wp2_with fail
               refine wp_region_held_drew (S := (fun _ => True)) (by kernel_rfl) ?_ (fun hHeld => ?_)
               · ((try dsimp only); all_goals trivial)
               refine wpAnyH_take (i := 0) (oi := ⟨some 85, .move (.tmp 18), 4, "l5_store.go:193", #[], none⟩) (v := ?_) rfl (by kernel_rfl) (by kernel_rfl) (by kernel_rfl) (fun _ _ _ h => h) (Or.inl ⟨by rfl, ?_⟩) (by assumption) ?_
               rotate_left
               · intro wq hSw
                 (try dsimp only at hSw)
                 go_simp
                 try with_reducible rfl
               try simp only [Act.put, qA, qB, qC]
               refine wpAnyH_take (i := 1) (oi := ⟨some 86, .move (.tmp 85), 4, "l5_store.go:193", #[⟨0, .data⟩], none⟩) (v := ?_) rfl (by kernel_rfl) (by kernel_rfl) (by kernel_rfl) (fun _ _ _ h => h) (Or.inl ⟨by rfl, ?_⟩) (by assumption) ?_
               rotate_left
               · intro wq hSw
                 (try dsimp only at hSw)
                 go_simp
                 try with_reducible rfl
               try simp only [Act.put, qA, qB, qC]
               refine wpAnyH_take (i := 2) (oi := ⟨some 87, .fieldAddr 37 (.tmp 10) 2, 0, "l5_store.go:193", #[⟨1, .guard⟩], some (1, false)⟩) (v := undef) rfl (by kernel_rfl) (by kernel_rfl) (by kernel_rfl) (fun _ _ _ h => h) (Or.inr ⟨by rfl, rfl⟩) (by assumption) ?_
               try simp only [Act.put, qA, qB, qC]
               refine wpAnyH_take (i := 3) (oi := ⟨some 88, .load 35 (.tmp 87), 35, "l5_store.go:193", #[⟨2, .data⟩, ⟨1, .guard⟩], some (1, false)⟩) (v := undef) rfl (by kernel_rfl) (by kernel_rfl) (by kernel_rfl) (fun _ _ _ h => h) (Or.inr ⟨by rfl, rfl⟩) (by assumption) ?_
               try simp only [Act.put, qA, qB, qC]
               refine wpAnyH_take (i := 4) (oi := ⟨some 89, .move (.tmp 19), 3, "l5_store.go:193", #[⟨1, .guard⟩], some (1, false)⟩) (v := undef) rfl (by kernel_rfl) (by kernel_rfl) (by kernel_rfl) (fun _ _ _ h => h) (Or.inr ⟨by rfl, rfl⟩) (by assumption) ?_
               try simp only [Act.put, qA, qB, qC]
               refine wpAnyH_take (i := 5) (oi := ⟨some 90, .indexAddr 35 (.tmp 88) (.tmp 89), 0, "l5_store.go:193", #[⟨3, .data⟩, ⟨4, .data⟩, ⟨1, .guard⟩], some (1, false)⟩) (v := undef) rfl (by kernel_rfl) (by kernel_rfl) (by kernel_rfl) (fun _ _ _ h => h) (Or.inr ⟨by rfl, rfl⟩) (by assumption) ?_
               try simp only [Act.put, qA, qB, qC]
               refine wpAnyH_take (i := 6) (oi := ⟨some 91, .load 67 (.tmp 90), 67, "l5_store.go:193", #[⟨5, .data⟩, ⟨1, .guard⟩], some (1, false)⟩) (v := undef) rfl (by kernel_rfl) (by kernel_rfl) (by kernel_rfl) (fun _ _ _ h => h) (Or.inr ⟨by rfl, rfl⟩) (by assumption) ?_
               try simp only [Act.put, qA, qB, qC]
               refine wpAnyH_take (i := 7) (oi := ⟨some 92, .load 67 (.tmp 17), 67, "l5_store.go:193", #[⟨1, .guard⟩], some (1, false)⟩) (v := undef) rfl (by kernel_rfl) (by kernel_rfl) (by kernel_rfl) (fun _ _ _ h => h) (Or.inr ⟨by rfl, rfl⟩) (by assumption) ?_
               try simp only [Act.put, qA, qB, qC]
               refine wpAnyH_take (i := 8) (oi := ⟨some 93, .call ⟨.value (.func 28), #[.tmp 91, .tmp 92], #[67, 67]⟩, 4, "l5_store.go:193", #[⟨6, .data⟩, ⟨7, .data⟩, ⟨1, .chain⟩, ⟨1, .guard⟩], some (1, false)⟩) (v := undef) rfl (by kernel_rfl) (by kernel_rfl) (by kernel_rfl) (fun _ _ _ h => h) (Or.inr ⟨by rfl, rfl⟩) (by assumption) ?_
               try simp only [Act.put, qA, qB, qC]
               refine wpAnyH_take (i := 9) (oi := ⟨some 94, .pick (.tmp 86) (.const (.bool true)) (.tmp 93), 4, "l5_store.go:193", #[⟨1, .data⟩, ⟨8, .data⟩], none⟩) (v := ?_) rfl (by kernel_rfl) (by kernel_rfl) (by kernel_rfl) (fun _ _ _ h => h) (Or.inl ⟨by rfl, ?_⟩) (by assumption) ?_
               rotate_left
               · intro wq hSw
                 (try dsimp only at hSw)
                 go_simp
                 try with_reducible rfl
               try simp only [Act.put, qA, qB, qC]
               refine wpAnyH_take (i := 10) (oi := ⟨some 18, .assign (.tmp 94), 4, "l5_store.go:193", #[⟨9, .data⟩, ⟨8, .chain⟩, ⟨0, .phase⟩, ⟨1, .phase⟩, ⟨2, .phase⟩, ⟨3, .phase⟩, ⟨4, .phase⟩, ⟨5, .phase⟩, ⟨6, .phase⟩, ⟨7, .phase⟩, ⟨8, .phase⟩, ⟨9, .phase⟩], none⟩) (v := ?_) rfl (by kernel_rfl) (by kernel_rfl) (by kernel_rfl) (fun _ _ _ h => h) (Or.inl ⟨by rfl, ?_⟩) (by assumption) ?_
               rotate_left
               · intro wq hSw
                 (try dsimp only at hSw)
                 go_simp
                 try with_reducible rfl
               try simp only [Act.put, qA, qB, qC]
               refine wpAnyH_done (by kernel_rfl) ?_ _
               go_wp2
               go_roundw
               case rel => exact ⟨k + 1, true, by omega, rfl, by go_num, ⟨fun _ => HQ.out, fun _ => rfl⟩, hbr.drew⟩
               case measure => simp [Go.RowKit.intOf]; omega
           · obtain rfl : k = s.rs.length := by omega
             have hmem := mem_iff_at hq.out
             rw [← HR0.out] at hmem
             clear hq
             cases b2
             · have HPR : Hid (putR s.rs (recR s.wd m ls c t) = s.rs ++ [⟨keyR m, ls.map (recG s.wd), sm⟩]) := by
                show putR _ _ = _
                unfold putR
                rw [if_neg (fun h => absurd (hmem.2 h) (by decide)), HR0.out]
               clear hmem
               have o2 := HLr.out.bl 2 _ rfl
               have t0 := (BR6.out.below hbr (by omega)) 0 _ rfl
               have t1 := (BR6.out.below hbr (by omega)) 1 _ rfl
               have t2 := (BR6.out.below hbr (by omega)) 2 _ rfl
               have HO : Hid ((wr.alloc (.cells #[.string (keyR m), .slice a5 ls.length c5, .string sm] 67)).ownsRow (w.heap.size + 4) 67 3 (.slice ra3 s.rs.length rc3) s.rs.length (rC s.rs vs)) := own_below HLr.out.rc.row ((Below.refl _ _).alloc (Nat.le_refl _) _)
               have HR : Hid (∀ j u, ([.string (keyR m), .slice a5 ls.length c5, .string sm] : List Value)[j]? = some u → (wr.alloc (.cells #[.string (keyR m), .slice a5 ls.length c5, .string sm] 67)).cell? ((⟨wr.heap.size, 0, none⟩ : Addr).add j) = some u) := fun j u hj => by
                rw [adr_add, Nat.zero_add]
                exact blk_new wr [.string (keyR m), .slice a5 ls.length c5, .string sm] 67 j u hj
               have B4 := hidI ((HLr.out.bl).below (N := wr.heap.size) ((Below.refl _ _).alloc (Nat.le_refl _) (.cells #[.string (keyR m), .slice a5 ls.length c5, .string sm] 67)) hAw)
               have O4 := hidI ((HLr.out.op).below (N := wr.heap.size) ((Below.refl _ _).alloc (Nat.le_refl _) (.cells #[.string (keyR m), .slice a5 ls.length c5, .string sm] 67)) hAw)
               have hwN : w.heap.size + 4 ≤ wr.heap.size := by have := HLr.out.na; omega
               have hmark : True := trivial
               go_wp2_with (refine wpList_app rfl (.tmp 98) (.tmp 100) 35 rfl (w.heap.size + 4) 67 iR (.agg #[.string ⟨#[]⟩, .slice none 0 0, .string ⟨#[]⟩]) 3 56 Tryz.underlying35 hi1 jz0 jz1 jz2 rfl (by decide) _ _ _ rfl HO.out ⟨wr.heap.size, 0, none⟩ 1 1 [.string (keyR m), .slice a5 ls.length c5, .string sm] rfl rfl HR.out (by simp [Value.oneCell']) (by unfold maxLen; omega) (by omega) (by simp; omega) ?_; revert hmark)
               intro v6 w6 hown hgrow
               obtain ⟨a6, c6, rfl⟩ := row_form hown
               have neS : some A ≠ (Value.slice ra3 s.rs.length rc3).ownBlock := fun e => absurd (ofT_one HLr.out.t1 (own_ofT HLr.out.rc.row e.symm)) (by decide)
               have m1 := (blk_kept B4.out hgrow (by simp; omega) neS) 2 _ rfl
               have m2 := (opn_kept O4.out hgrow (by simp; omega) neS) 2
               have b5r := hb5.trans ((bw56.trans (hbr.mono (by omega))).mono hb5.size)
               have HST := hidI (lc_app (y := ⟨keyR m, ls.map (recG s.wd), sm⟩) HX.out (List.length_map _) b5r (own_below HV5.out (bw56.trans (hbr.mono (by omega)))) hown hgrow)
               obtain ⟨P, hPe⟩ : ∃ P, P = s.rs ++ [⟨keyR m, ls.map (recG s.wd), sm⟩] := ⟨_, rfl⟩
               have hPl : s.rs.length + 1 = P.length := by rw [hPe]; simp
               rw [← hPe, hPl] at HST
               rw [← hPe] at HPR
               rw [hPl]
               have HLe := HST
               clear hown hgrow HST hPe hPl neS b5r
               simp only [Bool.false_and] at HNX
               have HK := hidI (keepF_3 HOK.out HRK.out HNX.out)
               have p0 := (BZ0.out.below HLe.out.bw (by omega)) 0 _ rfl
               have p1 := (BZ0.out.below HLe.out.bw (by omega)) 1 _ rfl
               have p2 := (BZ0.out.below HLe.out.bw (by omega)) 2 _ rfl
               have o0 := (OZ0.out.below HLe.out.bw (by omega)) 0
               have o1 := (OZ0.out.below HLe.out.bw (by omega)) 1
               have o2 := (OZ0.out.below HLe.out.bw (by omega)) 2
               have ZT : BlkAt ((((w6.setCell ⟨A, 2, none⟩ (.slice a6 P.length c6)).setCell ⟨w.heap.size + 3, 0, none⟩ (.int .i64 0)).setCell ⟨w.heap.size + 3, 1, none⟩ (.slice none 0 0)).setCell ⟨w.heap.size + 3, 2, none⟩ (.slice none 0 0)) (w.heap.size + 3) [.int .i64 0, .slice none 0 0, .slice none 0 0] := (((BZ0.out.below HLe.out.bw (by omega)).set 0 _ (by simp)).set 1 _ (by simp)).set 2 _ (by simp)
               have e0 := ZT 0 _ rfl
               have e1 := ZT 1 _ rfl
               have e2 := ZT 2 _ rfl
               have BT : Below w.heap.size w ((((w6.setCell ⟨A, 2, none⟩ (.slice a6 P.length c6)).setCell ⟨w.heap.size + 3, 0, none⟩ (.int .i64 0)).setCell ⟨w.heap.size + 3, 1, none⟩ (.slice none 0 0)).setCell ⟨w.heap.size + 3, 2, none⟩ (.slice none 0 0)) := (((BW0.trans (HLe.out.bw.mono (by omega))).setCell (p := ⟨w.heap.size + 3, 0, none⟩) (by show w.heap.size ≤ w.heap.size + 3; omega) _).setCell (p := ⟨w.heap.size + 3, 1, none⟩) (by show w.heap.size ≤ w.heap.size + 3; omega) _).setCell (p := ⟨w.heap.size + 3, 2, none⟩) (by show w.heap.size ≤ w.heap.size + 3; omega) _
               clear ZT
               go_wp2
               refine bodyPost_ret (v := .tuple #[.agg #[.int .i64 0, .slice none 0 0, .slice none 0 0], .int .i64 3]) (by simp [results, Tryz.results8, go_sem, e0, e1, e2]) rfl ⟨isKeep_st0 HK.out, BT⟩
             · have HPR : Hid (putR s.rs (recR s.wd m ls c t) = s.rs) := by
                show putR _ _ = _
                unfold putR
                rw [if_pos (hmem.1 rfl)]
               clear hmem
               have HLe := HLr
               have kA2 := HLe.out.bl 2 _ rfl
               simp only [Bool.false_and] at HNX
               have HK := hidI (keepF_3 HOK.out HRK.out HNX.out)
               have p0 := (BZ0.out.below HLe.out.bw (by omega)) 0 _ rfl
               have p1 := (BZ0.out.below HLe.out.bw (by omega)) 1 _ rfl
               have p2 := (BZ0.out.below HLe.out.bw (by omega)) 2 _ rfl
               have o0 := (OZ0.out.below HLe.out.bw (by omega)) 0
               have o1 := (OZ0.out.below HLe.out.bw (by omega)) 1
               have o2 := (OZ0.out.below HLe.out.bw (by omega)) 2
               have ZT : BlkAt (((wr.setCell ⟨w.heap.size + 3, 0, none⟩ (.int .i64 0)).setCell ⟨w.heap.size + 3, 1, none⟩ (.slice none 0 0)).setCell ⟨w.heap.size + 3, 2, none⟩ (.slice none 0 0)) (w.heap.size + 3) [.int .i64 0, .slice none 0 0, .slice none 0 0] := (((BZ0.out.below HLe.out.bw (by omega)).set 0 _ (by simp)).set 1 _ (by simp)).set 2 _ (by simp)
               have e0 := ZT 0 _ rfl
               have e1 := ZT 1 _ rfl
               have e2 := ZT 2 _ rfl
               have BT : Below w.heap.size w (((wr.setCell ⟨w.heap.size + 3, 0, none⟩ (.int .i64 0)).setCell ⟨w.heap.size + 3, 1, none⟩ (.slice none 0 0)).setCell ⟨w.heap.size + 3, 2, none⟩ (.slice none 0 0)) := (((BW0.trans (HLe.out.bw.mono (by omega))).setCell (p := ⟨w.heap.size + 3, 0, none⟩) (by show w.heap.size ≤ w.heap.size + 3; omega) _).setCell (p := ⟨w.heap.size + 3, 1, none⟩) (by show w.heap.size ≤ w.heap.size + 3; omega) _).setCell (p := ⟨w.heap.size + 3, 2, none⟩) (by show w.heap.size ≤ w.heap.size + 3; omega) _
               clear ZT
               go_wp2
               refine bodyPost_ret (v := .tuple #[.agg #[.int .i64 0, .slice none 0 0, .slice none 0 0], .int .i64 3]) (by simp [results, Tryz.results8, go_sem, e0, e1, e2]) rfl ⟨isKeep_st0 HK.out, BT⟩
        · go_wp2_with fail
          refine h27.mono ?_
          rintro e w5 ⟨⟨v5, rfl, hv5⟩, hb5⟩
          obtain ⟨a5, c5, rfl⟩ := row_form hv5
          rw [glC_gC] at hv5
          have HV5 := hidI hv5
          have L5 := hidI (HX.out.below hb5)
          clear h27 hv5 m0 m1 m2 v0 v1 x0
          generalize hsm : sumS (ofL (formR c t.data.toList)) s.wd = sm at *
          have HSM := hidI hsm
          clear hsm
          have L6 := hidI (L5.out.below (W' := (w5.alloc (.cells #[.string (keyR m), .slice a5 ls.length c5, .string sm] 67))) ((Below.refl _ _).alloc (Nat.le_refl _) _))
          have BR6 := hidI (blk_new w5 [.string (keyR m), .slice a5 ls.length c5, .string sm] 67)
          go_wp2_with fail
          have HGL := hidI (gls_row (gs := ls.map (recG s.wd)) (c := c5) (by rw [List.length_map]; exact HV5.out))
          have HR0 : Hid (recR s.wd m ls c t = ⟨keyR m, ls.map (recG s.wd), sm⟩) := hidI (by rw [← HSM.out]; rfl)
          have s5 : w5.heap.size + 1 = (w5.alloc (.cells #[.string (keyR m), .slice a5 ls.length c5, .string sm] 67)).heap.size := by simp
          have bw56 : Below w5.heap.size w5 (w5.alloc (.cells #[.string (keyR m), .slice a5 ls.length c5, .string sm] 67)) := (Below.refl _ _).alloc (Nat.le_refl _) _
          generalize (w5.alloc (.cells #[.string (keyR m), .slice a5 ls.length c5, .string sm] 67)) = E6 at *
          go_loopw [18, 19] (fun th i wr => ∃ (k : Nat) (b2 : Bool), k ≤ s.rs.length ∧ th = .bool b2 ∧ i = .int .i64 k ∧ Hid (b2 = true ↔ ∃ j, j < k ∧ s.rs.getD j r3z = ⟨keyR m, ls.map (recG s.wd), sm⟩) ∧ Below E6.heap.size E6 wr) (fun _ i _ => s.rs.length - (Go.RowKit.intOf i).toNat)
          case atStart => exact ⟨0, false, Nat.zero_le _, rfl, rfl, by show _ ↔ _; simp, Below.refl _ _⟩
          case round =>
           obtain ⟨k, b2, hk, rfl, rfl, hq, hbr⟩ := hrel
           have HLr := hidI (L6.out.below hbr)
           have hAw : A < wr.heap.size := ofT_lt HLr.out.t1
           have hsl := hs.2.1
           have h5w : w5.heap.size < wr.heap.size := by have := hbr.size; omega
           by_cases hlt : k < s.rs.length
           · have o2 := HLr.out.bl 2 _ rfl
             rcases recs_own HLr.out.rc with he | ⟨rb, ro, hra, hrb, hcell⟩
             · rw [he] at hlt; exact absurd hlt (Nat.not_lt_zero _)
             subst hra
             have hrx := hs.2.2 k
             obtain ⟨ai, ci, g0, g1, g2, g3⟩ := hcell k hlt
             clear hcell
             have t0 := (BR6.out.below hbr (by omega)) 0 _ rfl
             have t1 := (BR6.out.below hbr (by omega)) 1 _ rfl
             have t2 := (BR6.out.below hbr (by omega)) 2 _ rfl
             cases b2
             · have h28 := c28 (s.rs.getD k r3z) ⟨keyR m, ls.map (recG s.wd), sm⟩ ai a5 ci c5 wr.drew hrx.2.1 (by simpa using hl) (gls_below g3 (Below.refl _ _).drew) (gls_below HGL.out ((bw56.trans (hbr.mono (by omega))).trans ((Below.refl wr.heap.size wr).drew.mono (by omega))))
               simp only [List.length_map] at h28
               have HQ : Hid (∀ bo : Bool, (bo = true ↔ s.rs.getD k r3z = ⟨keyR m, ls.map (recG s.wd), sm⟩) → (bo = true ↔ ∃ j, j < k + 1 ∧ s.rs.getD j r3z = ⟨keyR m, ls.map (recG s.wd), sm⟩)) := fun bo hbo => by
                rw [hbo]
                constructor
                · intro e; exact ⟨k, by omega, e⟩
                · rintro ⟨j, hj, e⟩
                  rcases Nat.lt_or_ge j k with h | h
                  · exact absurd (hq.out.2 ⟨j, h, e⟩) (by decide)
                  · obtain rfl : j = k := by omega
                    exact e
               generalize s.rs.getD k r3z = x at *
               clear hrx hq
               go_wp2_with fail
               refine wp_region_held_drew (S := (fun u => u.cell? ⟨A, 2, none⟩ = some (.slice (some ⟨rb, ro, none⟩) s.rs.length rc3) ∧ u.cell? ⟨rb, ro + k * 3, none⟩ = some (.string x.key) ∧ u.cell? ⟨rb, ro + k * 3 + 1, none⟩ = some (.slice ai x.gs.length ci) ∧ u.cell? ⟨rb, ro + k * 3 + 2, none⟩ = some (.string x.out) ∧ u.cell? ⟨w5.heap.size, 0, none⟩ = some (.string (keyR m)) ∧ u.cell? ⟨w5.heap.size, 1, none⟩ = some (.slice a5 ls.length c5) ∧ u.cell? ⟨w5.heap.size, 2, none⟩ = some (.string sm))) (by kernel_rfl) ?_ (fun hHeld => ?_)
               · ((try dsimp only); first | exact ⟨o2, g0, g1, g2, t0, t1, t2⟩ | exact ⟨(hb7.cell (p := ⟨A, 2, none⟩) hAw).trans o2, (hb7.cell (p := ⟨rb, ro + k * 3, none⟩) hrb).trans g0, (hb7.cell (p := ⟨rb, ro + k * 3 + 1, none⟩) hrb).trans g1, (hb7.cell (p := ⟨rb, ro + k * 3 + 2, none⟩) hrb).trans g2, (hb7.cell (p := ⟨w5.heap.size, 0, none⟩) h5w).trans t0, (hb7.cell (p := ⟨w5.heap.size, 1, none⟩) h5w).trans t1, (hb7.cell (p := ⟨w5.heap.size, 2, none⟩) h5w).trans t2⟩)
               refine wpAnyH_take (i := 0) (oi := ⟨some 85, .move (.tmp 18), 4, "l5_store.go:193", #[], none⟩) (v := ?_) rfl (by kernel_rfl) (by kernel_rfl) (by kernel_rfl) (fun _ _ _ h => h) (Or.inl ⟨by rfl, ?_⟩) (by assumption) ?_
               rotate_left
               · intro wq hSw
                 (try dsimp only at hSw)
                 go_simp
                 try with_reducible rfl
               try simp only [Act.put, qA, qB, qC]
               refine wpAnyH_take (i := 1) (oi := ⟨some 86, .move (.tmp 85), 4, "l5_store.go:193", #[⟨0, .data⟩], none⟩) (v := ?_) rfl (by kernel_rfl) (by kernel_rfl) (by kernel_rfl) (fun _ _ _ h => h) (Or.inl ⟨by rfl, ?_⟩) (by assumption) ?_
               rotate_left
               · intro wq hSw
                 (try dsimp only at hSw)
                 go_simp
                 try with_reducible rfl
               try simp only [Act.put, qA, qB, qC]
               refine wpAnyH_take (i := 2) (oi := ⟨some 87, .fieldAddr 37 (.tmp 10) 2, 0, "l5_store.go:193", #[⟨1, .guard⟩], some (1, false)⟩) (v := ?_) rfl (by kernel_rfl) (by kernel_rfl) (by kernel_rfl) (fun _ _ _ h => h) (Or.inl ⟨by rfl, ?_⟩) (by assumption) ?_
               rotate_left
               · intro wq hSw
                 (try dsimp only at hSw)
                 go_simp
                 try with_reducible rfl
               try simp only [Act.put, qA, qB, qC]
               refine wpAnyH_take (i := 3) (oi := ⟨some 88, .load 35 (.tmp 87), 35, "l5_store.go:193", #[⟨2, .data⟩, ⟨1, .guard⟩], some (1, false)⟩) (v := ?_) rfl (by kernel_rfl) (by kernel_rfl) (by kernel_rfl) (fun _ _ _ h => h) (Or.inl ⟨by rfl, ?_⟩) (by assumption) ?_
               rotate_left
               · intro wq hSw
                 (try dsimp only at hSw)
                 go_simp
                 try with_reducible rfl
               try simp only [Act.put, qA, qB, qC]
               refine wpAnyH_take (i := 4) (oi := ⟨some 89, .move (.tmp 19), 3, "l5_store.go:193", #[⟨1, .guard⟩], some (1, false)⟩) (v := ?_) rfl (by kernel_rfl) (by kernel_rfl) (by kernel_rfl) (fun _ _ _ h => h) (Or.inl ⟨by rfl, ?_⟩) (by assumption) ?_
               rotate_left
               · intro wq hSw
                 (try dsimp only at hSw)
                 go_simp
                 try with_reducible rfl
               try simp only [Act.put, qA, qB, qC]
               refine wpAnyH_take (i := 5) (oi := ⟨some 90, .indexAddr 35 (.tmp 88) (.tmp 89), 0, "l5_store.go:193", #[⟨3, .data⟩, ⟨4, .data⟩, ⟨1, .guard⟩], some (1, false)⟩) (v := ?_) rfl (by kernel_rfl) (by kernel_rfl) (by kernel_rfl) (fun _ _ _ h => h) (Or.inl ⟨by rfl, ?_⟩) (by assumption) ?_
               rotate_left
               · intro wq hSw
                 (try dsimp only at hSw)
                 go_simp
                 try with_reducible rfl
               try simp only [Act.put, qA, qB, qC]
               refine wpAnyH_take (i := 6) (oi := ⟨some 91, .load 67 (.tmp 90), 67, "l5_store.go:193", #[⟨5, .data⟩, ⟨1, .guard⟩], some (1, false)⟩) (v := ?_) rfl (by kernel_rfl) (by kernel_rfl) (by kernel_rfl) (fun _ _ _ h => h) (Or.inl ⟨by rfl, ?_⟩) (by assumption) ?_
               rotate_left
               · intro wq hSw
                 (try dsimp only at hSw)
                 go_simp
                 try with_reducible rfl
               try simp only [Act.put, qA, qB, qC]
               refine wpAnyH_take (i := 7) (oi := ⟨some 92, .load 67 (.tmp 17), 67, "l5_store.go:193", #[⟨1, .guard⟩], some (1, false)⟩) (v := ?_) rfl (by kernel_rfl) (by kernel_rfl) (by kernel_rfl) (fun _ _ _ h => h) (Or.inl ⟨by rfl, ?_⟩) (by assumption) ?_
               rotate_left
               · intro wq hSw
                 (try dsimp only at hSw)
                 go_simp
                 try with_reducible rfl
               try simp only [Act.put, qA, qB, qC]
               refine wpAnyH_ready (rs := [8]) (by kernel_rfl) (by simp) ?_
               refine AllReadyH.cons (o := ⟨some 93, .call ⟨.value (.func 28), #[.tmp 91, .tmp 92], #[67, 67]⟩, 4, "l5_store.go:193", #[⟨6, .data⟩, ⟨7, .data⟩, ⟨1, .chain⟩, ⟨1, .guard⟩], some (1, false)⟩) rfl (fun K hK => ?_) AllReadyH.nil
               go_simp
               refine h28.mono ?_
               rintro e w7 ⟨⟨bo, rfl, hbo⟩, hb70⟩
               have hb7 := (Below.refl wr.heap.size wr).drew.trans hb70
               go_wp2_with fail
               clear hHeld
               refine hK.out _ _ ?_ (fun hHeld => ?_)
               · ((try dsimp only); first | exact ⟨o2, g0, g1, g2, t0, t1, t2⟩ | exact ⟨(hb7.cell (p := ⟨A, 2, none⟩) hAw).trans o2, (hb7.cell (p := ⟨rb, ro + k * 3, none⟩) hrb).trans g0, (hb7.cell (p := ⟨rb, ro + k * 3 + 1, none⟩) hrb).trans g1, (hb7.cell (p := ⟨rb, ro + k * 3 + 2, none⟩) hrb).trans g2, (hb7.cell (p := ⟨w5.heap.size, 0, none⟩) h5w).trans t0, (hb7.cell (p := ⟨w5.heap.size, 1, none⟩) h5w).trans t1, (hb7.cell (p := ⟨w5.heap.size, 2, none⟩) h5w).trans t2⟩)
               clear hK K
               try simp only [Act.put, qA, qB, qC]
               refine wpAnyH_take (i := 9) (oi := ⟨some 94, .pick (.tmp 86) (.const (.bool true)) (.tmp 93), 4, "l5_store.go:193", #[⟨1, .data⟩, ⟨8, .data⟩], none⟩) (v := ?_) rfl (by kernel_rfl) (by kernel_rfl) (by kernel_rfl) (fun _ _ _ h => h) (Or.inl ⟨by rfl, ?_⟩) (by assumption) ?_
               rotate_left
               · intro wq hSw
                 (try dsimp only at hSw)
                 go_simp
                 try with_reducible rfl
               try simp only [Act.put, qA, qB, qC]
               refine wpAnyH_take (i := 10) (oi := ⟨some 18, .assign (.tmp 94), 4, "l5_store.go:193", #[⟨9, .data⟩, ⟨8, .chain⟩, ⟨0, .phase⟩, ⟨1, .phase⟩, ⟨2, .phase⟩, ⟨3, .phase⟩, ⟨4, .phase⟩, ⟨5, .phase⟩, ⟨6, .phase⟩, ⟨7, .phase⟩, ⟨8, .phase⟩, ⟨9, .phase⟩], none⟩) (v := ?_) rfl (by kernel_rfl) (by kernel_rfl) (by kernel_rfl) (fun _ _ _ h => h) (Or.inl ⟨by rfl, ?_⟩) (by assumption) ?_
               rotate_left
               · intro wq hSw
                 (try dsimp only at hSw)
                 go_simp
                 try with_reducible rfl
               try simp only [Act.put, qA, qB, qC]
               refine wpAnyH_done (by kernel_rfl) ?_ _
               go_wp2
               go_roundw
               case rel => exact ⟨k + 1, bo, by omega, rfl, by go_num, HQ.out bo hbo, hbr.trans (hb7.mono hbr.size)⟩
               case measure => simp [Go.RowKit.intOf]; omega
             · have HQ : Hid (∃ j, j < k + 1 ∧ s.rs.getD j r3z = ⟨keyR m, ls.map (recG s.wd), sm⟩) := by
                obtain ⟨j, hj, e⟩ := hq.out.1 rfl
                exact ⟨j, by omega, e⟩
               clear hrx hq g3
               go_wp2_with fail
               refine wp_region_held_drew (S := (fun _ => True)) (by kernel_rfl) ?_ (fun hHeld => ?_)
               · ((try dsimp only); all_goals trivial)
               refine wpAnyH_take (i := 0) (oi := ⟨some 85, .move (.tmp 18), 4, "l5_store.go:193", #[], none⟩) (v := ?_) rfl (by kernel_rfl) (by kernel_rfl) (by kernel_rfl) (fun _ _ _ h => h) (Or.inl ⟨by rfl, ?_⟩) (by assumption) ?_
               rotate_left
               · intro wq hSw
                 (try dsimp only at hSw)
                 go_simp
                 try with_reducible rfl
               try simp only [Act.put, qA, qB, qC]
               refine wpAnyH_take (i := 1) (oi := ⟨some 86, .move (.tmp 85), 4, "l5_store.go:193", #[⟨0, .data⟩], none⟩) (v := ?_) rfl (by kernel_rfl) (by kernel_rfl) (by kernel_rfl) (fun _ _ _ h => h) (Or.inl ⟨by rfl, ?_⟩) (by assumption) ?_
               rotate_left
               · intro wq hSw
                 (try dsimp only at hSw)
                 go_simp
                 try with_reducible rfl
               try simp only [Act.put, qA, qB, qC]
               refine wpAnyH_take (i := 2) (oi := ⟨some 87, .fieldAddr 37 (.tmp 10) 2, 0, "l5_store.go:193", #[⟨1, .guard⟩], some (1, false)⟩) (v := undef) rfl (by kernel_rfl) (by kernel_rfl) (by kernel_rfl) (fun _ _ _ h => h) (Or.inr ⟨by rfl, rfl⟩) (by assumption) ?_
               try simp only [Act.put, qA, qB, qC]
               refine wpAnyH_take (i := 3) (oi := ⟨some 88, .load 35 (.tmp 87), 35, "l5_store.go:193", #[⟨2, .data⟩, ⟨1, .guard⟩], some (1, false)⟩) (v := undef) rfl (by kernel_rfl) (by kernel_rfl) (by kernel_rfl) (fun _ _ _ h => h) (Or.inr ⟨by rfl, rfl⟩) (by assumption) ?_
               try simp only [Act.put, qA, qB, qC]
               refine wpAnyH_take (i := 4) (oi := ⟨some 89, .move (.tmp 19), 3, "l5_store.go:193", #[⟨1, .guard⟩], some (1, false)⟩) (v := undef) rfl (by kernel_rfl) (by kernel_rfl) (by kernel_rfl) (fun _ _ _ h => h) (Or.inr ⟨by rfl, rfl⟩) (by assumption) ?_
               try simp only [Act.put, qA, qB, qC]
               refine wpAnyH_take (i := 5) (oi := ⟨some 90, .indexAddr 35 (.tmp 88) (.tmp 89), 0, "l5_store.go:193", #[⟨3, .data⟩, ⟨4, .data⟩, ⟨1, .guard⟩], some (1, false)⟩) (v := undef) rfl (by kernel_rfl) (by kernel_rfl) (by kernel_rfl) (fun _ _ _ h => h) (Or.inr ⟨by rfl, rfl⟩) (by assumption) ?_
               try simp only [Act.put, qA, qB, qC]
               refine wpAnyH_take (i := 6) (oi := ⟨some 91, .load 67 (.tmp 90), 67, "l5_store.go:193", #[⟨5, .data⟩, ⟨1, .guard⟩], some (1, false)⟩) (v := undef) rfl (by kernel_rfl) (by kernel_rfl) (by kernel_rfl) (fun _ _ _ h => h) (Or.inr ⟨by rfl, rfl⟩) (by assumption) ?_
               try simp only [Act.put, qA, qB, qC]
               refine wpAnyH_take (i := 7) (oi := ⟨some 92, .load 67 (.tmp 17), 67, "l5_store.go:193", #[⟨1, .guard⟩], some (1, false)⟩) (v := undef) rfl (by kernel_rfl) (by kernel_rfl) (by kernel_rfl) (fun _ _ _ h => h) (Or.inr ⟨by rfl, rfl⟩) (by assumption) ?_
               try simp only [Act.put, qA, qB, qC]
               refine wpAnyH_take (i := 8) (oi := ⟨some 93, .call ⟨.value (.func 28), #[.tmp 91, .tmp 92], #[67, 67]⟩, 4, "l5_store.go:193", #[⟨6, .data⟩, ⟨7, .data⟩, ⟨1, .chain⟩, ⟨1, .guard⟩], some (1, false)⟩) (v := undef) rfl (by kernel_rfl) (by kernel_rfl) (by kernel_rfl) (fun _ _ _ h => h) (Or.inr ⟨by rfl, rfl⟩) (by assumption) ?_
               try simp only [Act.put, qA, qB, qC]
               refine wpAnyH_take (i := 9) (oi := ⟨some 94, .pick (.tmp 86) (.const (.bool true)) (.tmp 93), 4, "l5_store.go:193", #[⟨1, .data⟩, ⟨8, .data⟩], none⟩) (v := ?_) rfl (by kernel_rfl) (by kernel_rfl) (by kernel_rfl) (fun _ _ _ h => h) (Or.inl ⟨by rfl, ?_⟩) (by assumption) ?_
               rotate_left
               · intro wq hSw
                 (try dsimp only at hSw)
                 go_simp
                 try with_reducible rfl
               try simp only [Act.put, qA, qB, qC]
               refine wpAnyH_take (i := 10) (oi := ⟨some 18, .assign (.tmp 94), 4, "l5_store.go:193", #[⟨9, .data⟩, ⟨8, .chain⟩, ⟨0, .phase⟩, ⟨1, .phase⟩, ⟨2, .phase⟩, ⟨3, .phase⟩, ⟨4, .phase⟩, ⟨5, .phase⟩, ⟨6, .phase⟩, ⟨7, .phase⟩, ⟨8, .phase⟩, ⟨9, .phase⟩], none⟩) (v := ?_) rfl (by kernel_rfl) (by kernel_rfl) (by kernel_rfl) (fun _ _ _ h => h) (Or.inl ⟨by rfl, ?_⟩) (by assumption) ?_
               rotate_left
               · intro wq hSw
                 (try dsimp only at hSw)
                 go_simp
                 try with_reducible rfl
               try simp only [Act.put, qA, qB, qC]
               refine wpAnyH_done (by kernel_rfl) ?_ _
               go_wp2
               go_roundw
               case rel => exact ⟨k + 1, true, by omega, rfl, by go_num, ⟨fun _ => HQ.out, fun _ => rfl⟩, hbr.drew⟩
               case measure => simp [Go.RowKit.intOf]; omega
           · obtain rfl : k = s.rs.length := by omega
             have hmem := mem_iff_at hq.out
             rw [← HR0.out] at hmem
             clear hq
             cases b2
             · have HPR : Hid (putR s.rs (recR s.wd m ls c t) = s.rs ++ [⟨keyR m, ls.map (recG s.wd), sm⟩]) := by
                show putR _ _ = _
                unfold putR
                rw [if_neg (fun h => absurd (hmem.2 h) (by decide)), HR0.out]
               clear hmem
               have o2 := HLr.out.bl 2 _ rfl
               have t0 := (BR6.out.below hbr (by omega)) 0 _ rfl
               have t1 := (BR6.out.below hbr (by omega)) 1 _ rfl
               have t2 := (BR6.out.below hbr (by omega)) 2 _ rfl
               have HO : Hid ((wr.alloc (.cells #[.string (keyR m), .slice a5 ls.length c5, .string sm] 67)).ownsRow (w.heap.size + 4) 67 3 (.slice ra3 s.rs.length rc3) s.rs.length (rC s.rs vs)) := own_below HLr.out.rc.row ((Below.refl _ _).alloc (Nat.le_refl _) _)
               have HR : Hid (∀ j u, ([.string (keyR m), .slice a5 ls.length c5, .string sm] : List Value)[j]? = some u → (wr.alloc (.cells #[.string (keyR m), .slice a5 ls.length c5, .string sm] 67)).cell? ((⟨wr.heap.size, 0, none⟩ : Addr).add j) = some u) := fun j u hj => by
                rw [adr_add, Nat.zero_add]
                exact blk_new wr [.string (keyR m), .slice a5 ls.length c5, .string sm] 67 j u hj
               have B4 := hidI ((HLr.out.bl).below (N := wr.heap.size) ((Below.refl _ _).alloc (Nat.le_refl _) (.cells #[.string (keyR m), .slice a5 ls.length c5, .string sm] 67)) hAw)
               have O4 := hidI ((HLr.out.op).below (N := wr.heap.size) ((Below.refl _ _).alloc (Nat.le_refl _) (.cells #[.string (keyR m), .slice a5 ls.length c5, .string sm] 67)) hAw)
               have hwN : w.heap.size + 4 ≤ wr.heap.size := by have := HLr.out.na; omega
               have hmark : True := trivial
               go_wp2_with (refine wpList_app rfl (.tmp 98) (.tmp 100) 35 rfl (w.heap.size + 4) 67 iR (.agg #[.string ⟨#[]⟩, .slice none 0 0, .string ⟨#[]⟩]) 3 56 Tryz.underlying35 hi1 jz0 jz1 jz2 rfl (by decide) _ _ _ rfl HO.out ⟨wr.heap.size, 0, none⟩ 1 1 [.string (keyR m), .slice a5 ls.length c5, .string sm] rfl rfl HR.out (by simp [Value.oneCell']) (by unfold maxLen; omega) (by omega) (by simp; omega) ?_; revert hmark)
               intro v6 w6 hown hgrow
               obtain ⟨a6, c6, rfl⟩ := row_form hown
               have neS : some A ≠ (Value.slice ra3 s.rs.length rc3).ownBlock := fun e => absurd (ofT_one HLr.out.t1 (own_ofT HLr.out.rc.row e.symm)) (by decide)
               have m1 := (blk_kept B4.out hgrow (by simp; omega) neS) 2 _ rfl
               have m2 := (opn_kept O4.out hgrow (by simp; omega) neS) 2
               have b5r := hb5.trans ((bw56.trans (hbr.mono (by omega))).mono hb5.size)
               have HST := hidI (lc_app (y := ⟨keyR m, ls.map (recG s.wd), sm⟩) HX.out (List.length_map _) b5r (own_below HV5.out (bw56.trans (hbr.mono (by omega)))) hown hgrow)
               obtain ⟨P, hPe⟩ : ∃ P, P = s.rs ++ [⟨keyR m, ls.map (recG s.wd), sm⟩] := ⟨_, rfl⟩
               have hPl : s.rs.length + 1 = P.length := by rw [hPe]; simp
               rw [← hPe, hPl] at HST
               rw [← hPe] at HPR
               rw [hPl]
               have HLe := HST
               clear hown hgrow HST hPe hPl neS b5r
               simp only [Bool.true_and] at HNX
               cases b'
               · have HK := hidI (keepF_3 HOK.out HRK.out HNX.out)
                 have p0 := (BZ0.out.below HLe.out.bw (by omega)) 0 _ rfl
                 have p1 := (BZ0.out.below HLe.out.bw (by omega)) 1 _ rfl
                 have p2 := (BZ0.out.below HLe.out.bw (by omega)) 2 _ rfl
                 have o0 := (OZ0.out.below HLe.out.bw (by omega)) 0
                 have o1 := (OZ0.out.below HLe.out.bw (by omega)) 1
                 have o2 := (OZ0.out.below HLe.out.bw (by omega)) 2
                 have ZT : BlkAt ((((w6.setCell ⟨A, 2, none⟩ (.slice a6 P.length c6)).setCell ⟨w.heap.size + 3, 0, none⟩ (.int .i64 0)).setCell ⟨w.heap.size + 3, 1, none⟩ (.slice none 0 0)).setCell ⟨w.heap.size + 3, 2, none⟩ (.slice none 0 0)) (w.heap.size + 3) [.int .i64 0, .slice none 0 0, .slice none 0 0] := (((BZ0.out.below HLe.out.bw (by omega)).set 0 _ (by simp)).set 1 _ (by simp)).set 2 _ (by simp)
                 have e0 := ZT 0 _ rfl
                 have e1 := ZT 1 _ rfl
                 have e2 := ZT 2 _ rfl
                 have BT : Below w.heap.size w ((((w6.setCell ⟨A, 2, none⟩ (.slice a6 P.length c6)).setCell ⟨w.heap.size + 3, 0, none⟩ (.int .i64 0)).setCell ⟨w.heap.size + 3, 1, none⟩ (.slice none 0 0)).setCell ⟨w.heap.size + 3, 2, none⟩ (.slice none 0 0)) := (((BW0.trans (HLe.out.bw.mono (by omega))).setCell (p := ⟨w.heap.size + 3, 0, none⟩) (by show w.heap.size ≤ w.heap.size + 3; omega) _).setCell (p := ⟨w.heap.size + 3, 1, none⟩) (by show w.heap.size ≤ w.heap.size + 3; omega) _).setCell (p := ⟨w.heap.size + 3, 2, none⟩) (by show w.heap.size ≤ w.heap.size + 3; omega) _
                 clear ZT
                 go_wp2
                 refine bodyPost_ret (v := .tuple #[.agg #[.int .i64 0, .slice none 0 0, .slice none 0 0], .int .i64 3]) (by simp [results, Tryz.results8, go_sem, e0, e1, e2]) rfl ⟨isKeep_st0 HK.out, BT⟩
               · by_cases h300 : 300 < T'.length
                 · have HK := hidI (keepF_4 HOK.out HRK.out HNX.out HPR.out (.inl h300))
                   have i300 : (300 : Int) < T'.length := by omega
                   have k1 := HLe.out.bl 1 _ rfl
                   have k2' := HLe.out.bl 2 _ rfl
                   have p0 := (BZ0.out.below HLe.out.bw (by omega)) 0 _ rfl
                   have p1 := (BZ0.out.below HLe.out.bw (by omega)) 1 _ rfl
                   have p2 := (BZ0.out.below HLe.out.bw (by omega)) 2 _ rfl
                   have o0 := (OZ0.out.below HLe.out.bw (by omega)) 0
                   have o1 := (OZ0.out.below HLe.out.bw (by omega)) 1
                   have o2 := (OZ0.out.below HLe.out.bw (by omega)) 2
                   have ZT : BlkAt ((((w6.setCell ⟨A, 2, none⟩ (.slice a6 P.length c6)).setCell ⟨w.heap.size + 3, 0, none⟩ (.int .i64 0)).setCell ⟨w.heap.size + 3, 1, none⟩ (.slice none 0 0)).setCell ⟨w.heap.size + 3, 2, none⟩ (.slice none 0 0)) (w.heap.size + 3) [.int .i64 0, .slice none 0 0, .slice none 0 0] := (((BZ0.out.below HLe.out.bw (by omega)).set 0 _ (by simp)).set 1 _ (by simp)).set 2 _ (by simp)
                   have e0 := ZT 0 _ rfl
                   have e1 := ZT 1 _ rfl
                   have e2 := ZT 2 _ rfl
                   have BT : Below w.heap.size w ((((w6.setCell ⟨A, 2, none⟩ (.slice a6 P.length c6)).setCell ⟨w.heap.size + 3, 0, none⟩ (.int .i64 0)).setCell ⟨w.heap.size + 3, 1, none⟩ (.slice none 0 0)).setCell ⟨w.heap.size + 3, 2, none⟩ (.slice none 0 0)) := (((BW0.trans (HLe.out.bw.mono (by omega))).setCell (p := ⟨w.heap.size + 3, 0, none⟩) (by show w.heap.size ≤ w.heap.size + 3; omega) _).setCell (p := ⟨w.heap.size + 3, 1, none⟩) (by show w.heap.size ≤ w.heap.size + 3; omega) _).setCell (p := ⟨w.heap.size + 3, 2, none⟩) (by show w.heap.size ≤ w.heap.size + 3; omega) _
                   clear ZT
                   go_wp2
                   refine bodyPost_ret (v := .tuple #[.agg #[.int .i64 0, .slice none 0 0, .slice none 0 0], .int .i64 4]) (by simp [results, Tryz.results8, go_sem, e0, e1, e2]) rfl ⟨isKeep_st0 HK.out, BT⟩
                 · by_cases h150 : 150 < P.length
                   · have HK := hidI (keepF_4 HOK.out HRK.out HNX.out HPR.out (.inr h150))
                     have n300 : ¬ (300 : Int) < T'.length := by omega
                     have i150 : (150 : Int) < P.length := by omega
                     have k1 := HLe.out.bl 1 _ rfl
                     have k2' := HLe.out.bl 2 _ rfl
                     have p0 := (BZ0.out.below HLe.out.bw (by omega)) 0 _ rfl
                     have p1 := (BZ0.out.below HLe.out.bw (by omega)) 1 _ rfl
                     have p2 := (BZ0.out.below HLe.out.bw (by omega)) 2 _ rfl
                     have o0 := (OZ0.out.below HLe.out.bw (by omega)) 0
                     have o1 := (OZ0.out.below HLe.out.bw (by omega)) 1
                     have o2 := (OZ0.out.below HLe.out.bw (by omega)) 2
                     have ZT : BlkAt ((((w6.setCell ⟨A, 2, none⟩ (.slice a6 P.length c6)).setCell ⟨w.heap.size + 3, 0, none⟩ (.int .i64 0)).setCell ⟨w.heap.size + 3, 1, none⟩ (.slice none 0 0)).setCell ⟨w.heap.size + 3, 2, none⟩ (.slice none 0 0)) (w.heap.size + 3) [.int .i64 0, .slice none 0 0, .slice none 0 0] := (((BZ0.out.below HLe.out.bw (by omega)).set 0 _ (by simp)).set 1 _ (by simp)).set 2 _ (by simp)
                     have e0 := ZT 0 _ rfl
                     have e1 := ZT 1 _ rfl
                     have e2 := ZT 2 _ rfl
                     have BT : Below w.heap.size w ((((w6.setCell ⟨A, 2, none⟩ (.slice a6 P.length c6)).setCell ⟨w.heap.size + 3, 0, none⟩ (.int .i64 0)).setCell ⟨w.heap.size + 3, 1, none⟩ (.slice none 0 0)).setCell ⟨w.heap.size + 3, 2, none⟩ (.slice none 0 0)) := (((BW0.trans (HLe.out.bw.mono (by omega))).setCell (p := ⟨w.heap.size + 3, 0, none⟩) (by show w.heap.size ≤ w.heap.size + 3; omega) _).setCell (p := ⟨w.heap.size + 3, 1, none⟩) (by show w.heap.size ≤ w.heap.size + 3; omega) _).setCell (p := ⟨w.heap.size + 3, 2, none⟩) (by show w.heap.size ≤ w.heap.size + 3; omega) _
                     clear ZT
                     go_wp2
                     refine bodyPost_ret (v := .tuple #[.agg #[.int .i64 0, .slice none 0 0, .slice none 0 0], .int .i64 4]) (by simp [results, Tryz.results8, go_sem, e0, e1, e2]) rfl ⟨isKeep_st0 HK.out, BT⟩
                   · have HK := hidI (keepF_0 HOK.out HRK.out HNX.out HPR.out h300 h150)
                     have n300 : ¬ (300 : Int) < T'.length := by omega
                     have n150 : ¬ (150 : Int) < P.length := by omega
                     have k0 := HLe.out.bl 0 _ rfl
                     have k1 := HLe.out.bl 1 _ rfl
                     have k2' := HLe.out.bl 2 _ rfl
                     have p0 := (BZ0.out.below HLe.out.bw (by omega)) 0 _ rfl
                     have p1 := (BZ0.out.below HLe.out.bw (by omega)) 1 _ rfl
                     have p2 := (BZ0.out.below HLe.out.bw (by omega)) 2 _ rfl
                     have o0 := (OZ0.out.below HLe.out.bw (by omega)) 0
                     have o1 := (OZ0.out.below HLe.out.bw (by omega)) 1
                     have o2 := (OZ0.out.below HLe.out.bw (by omega)) 2
                     have ZT : BlkAt ((((w6.setCell ⟨A, 2, none⟩ (.slice a6 P.length c6)).setCell ⟨w.heap.size + 3, 0, none⟩ (.int .i64 s.wd)).setCell ⟨w.heap.size + 3, 1, none⟩ ((.slice (some ⟨g', 0, none⟩) T'.length c'))).setCell ⟨w.heap.size + 3, 2, none⟩ ((.slice a6 P.length c6))) (w.heap.size + 3) [.int .i64 s.wd, .slice (some ⟨g', 0, none⟩) T'.length c', .slice a6 P.length c6] := (((BZ0.out.below HLe.out.bw (by omega)).set 0 _ (by simp)).set 1 _ (by simp)).set 2 _ (by simp)
                     have e0 := ZT 0 _ rfl
                     have e1 := ZT 1 _ rfl
                     have e2 := ZT 2 _ rfl
                     have BT : Below w.heap.size w ((((w6.setCell ⟨A, 2, none⟩ (.slice a6 P.length c6)).setCell ⟨w.heap.size + 3, 0, none⟩ (.int .i64 s.wd)).setCell ⟨w.heap.size + 3, 1, none⟩ ((.slice (some ⟨g', 0, none⟩) T'.length c'))).setCell ⟨w.heap.size + 3, 2, none⟩ ((.slice a6 P.length c6))) := (((BW0.trans (HLe.out.bw.mono (by omega))).setCell (p := ⟨w.heap.size + 3, 0, none⟩) (by show w.heap.size ≤ w.heap.size + 3; omega) _).setCell (p := ⟨w.heap.size + 3, 1, none⟩) (by show w.heap.size ≤ w.heap.size + 3; omega) _).setCell (p := ⟨w.heap.size + 3, 2, none⟩) (by show w.heap.size ≤ w.heap.size + 3; omega) _
                     have HE : Hid (∀ k, k ≠ w.heap.size + 3 → ((((w6.setCell ⟨A, 2, none⟩ (.slice a6 P.length c6)).setCell ⟨w.heap.size + 3, 0, none⟩ (.int .i64 s.wd)).setCell ⟨w.heap.size + 3, 1, none⟩ ((.slice (some ⟨g', 0, none⟩) T'.length c'))).setCell ⟨w.heap.size + 3, 2, none⟩ ((.slice a6 P.length c6))).heap[k]? = (w6.setCell ⟨A, 2, none⟩ (.slice a6 P.length c6)).heap[k]?) := hidI (fun k hk => (Below.heap_setCell (((w6.setCell ⟨A, 2, none⟩ (.slice a6 P.length c6)).setCell ⟨w.heap.size + 3, 0, none⟩ (.int .i64 s.wd)).setCell ⟨w.heap.size + 3, 1, none⟩ (.slice (some ⟨g', 0, none⟩) T'.length c')) ⟨w.heap.size + 3, 2, none⟩ (.slice a6 P.length c6) k (by exact hk)).trans ((Below.heap_setCell ((w6.setCell ⟨A, 2, none⟩ (.slice a6 P.length c6)).setCell ⟨w.heap.size + 3, 0, none⟩ (.int .i64 s.wd)) ⟨w.heap.size + 3, 1, none⟩ (.slice (some ⟨g', 0, none⟩) T'.length c') k (by exact hk)).trans (Below.heap_setCell (w6.setCell ⟨A, 2, none⟩ (.slice a6 P.length c6)) ⟨w.heap.size + 3, 0, none⟩ (.int .i64 s.wd) k (by exact hk))))
                     have HSO : Hid (StOwn ((((w6.setCell ⟨A, 2, none⟩ (.slice a6 P.length c6)).setCell ⟨w.heap.size + 3, 0, none⟩ (.int .i64 s.wd)).setCell ⟨w.heap.size + 3, 1, none⟩ ((.slice (some ⟨g', 0, none⟩) T'.length c'))).setCell ⟨w.heap.size + 3, 2, none⟩ ((.slice a6 P.length c6))) w.heap.size T' P (.slice (some ⟨g', 0, none⟩) T'.length c') (.slice a6 P.length c6)) := by
                      have h := HLe.out.rc.keep (W' := ((((w6.setCell ⟨A, 2, none⟩ (.slice a6 P.length c6)).setCell ⟨w.heap.size + 3, 0, none⟩ (.int .i64 s.wd)).setCell ⟨w.heap.size + 3, 1, none⟩ ((.slice (some ⟨g', 0, none⟩) T'.length c'))).setCell ⟨w.heap.size + 3, 2, none⟩ ((.slice a6 P.length c6)))) (fun q t _ _ hq => HE.out q (fun e => by omega))
                      exact ⟨own_low (own_keep' HLe.out.tr (fun q hq => HE.out q (fun e => by have := own_blk HLe.out.tr hq; omega))) (by omega), _, h.len, own_low h.row (by omega), fun i hi => by
                       obtain ⟨a3, c3, e, h3⟩ := h.gl i hi
                       exact ⟨a3, c3, e, own_low h3 (by omega)⟩, h.apart⟩
                     have HIK := hidI (isKeep_ok HK.out HSO.out)
                     clear ZT
                     go_wp2
                     refine bodyPost_ret (v := .tuple #[.agg #[.int .i64 s.wd, .slice (some ⟨g', 0, none⟩) T'.length c', .slice a6 P.length c6], .int .i64 0]) (by simp [results, Tryz.results8, go_sem, e0, e1, e2]) rfl ⟨HIK.out, BT⟩
             · have HPR : Hid (putR s.rs (recR s.wd m ls c t) = s.rs) := by
                show putR _ _ = _
                unfold putR
                rw [if_pos (hmem.1 rfl)]
               clear hmem
               have HLe := HLr
               have kA2 := HLe.out.bl 2 _ rfl
               simp only [Bool.true_and] at HNX
               cases b'
               · have HK := hidI (keepF_3 HOK.out HRK.out HNX.out)
                 have p0 := (BZ0.out.below HLe.out.bw (by omega)) 0 _ rfl
                 have p1 := (BZ0.out.below HLe.out.bw (by omega)) 1 _ rfl
                 have p2 := (BZ0.out.below HLe.out.bw (by omega)) 2 _ rfl
                 have o0 := (OZ0.out.below HLe.out.bw (by omega)) 0
                 have o1 := (OZ0.out.below HLe.out.bw (by omega)) 1
                 have o2 := (OZ0.out.below HLe.out.bw (by omega)) 2
                 have ZT : BlkAt (((wr.setCell ⟨w.heap.size + 3, 0, none⟩ (.int .i64 0)).setCell ⟨w.heap.size + 3, 1, none⟩ (.slice none 0 0)).setCell ⟨w.heap.size + 3, 2, none⟩ (.slice none 0 0)) (w.heap.size + 3) [.int .i64 0, .slice none 0 0, .slice none 0 0] := (((BZ0.out.below HLe.out.bw (by omega)).set 0 _ (by simp)).set 1 _ (by simp)).set 2 _ (by simp)
                 have e0 := ZT 0 _ rfl
                 have e1 := ZT 1 _ rfl
                 have e2 := ZT 2 _ rfl
                 have BT : Below w.heap.size w (((wr.setCell ⟨w.heap.size + 3, 0, none⟩ (.int .i64 0)).setCell ⟨w.heap.size + 3, 1, none⟩ (.slice none 0 0)).setCell ⟨w.heap.size + 3, 2, none⟩ (.slice none 0 0)) := (((BW0.trans (HLe.out.bw.mono (by omega))).setCell (p := ⟨w.heap.size + 3, 0, none⟩) (by show w.heap.size ≤ w.heap.size + 3; omega) _).setCell (p := ⟨w.heap.size + 3, 1, none⟩) (by show w.heap.size ≤ w.heap.size + 3; omega) _).setCell (p := ⟨w.heap.size + 3, 2, none⟩) (by show w.heap.size ≤ w.heap.size + 3; omega) _
                 clear ZT
                 go_wp2
                 refine bodyPost_ret (v := .tuple #[.agg #[.int .i64 0, .slice none 0 0, .slice none 0 0], .int .i64 3]) (by simp [results, Tryz.results8, go_sem, e0, e1, e2]) rfl ⟨isKeep_st0 HK.out, BT⟩
               · by_cases h300 : 300 < T'.length
                 · have HK := hidI (keepF_4 HOK.out HRK.out HNX.out HPR.out (.inl h300))
                   have i300 : (300 : Int) < T'.length := by omega
                   have k1 := HLe.out.bl 1 _ rfl
                   have k2' := HLe.out.bl 2 _ rfl
                   have p0 := (BZ0.out.below HLe.out.bw (by omega)) 0 _ rfl
                   have p1 := (BZ0.out.below HLe.out.bw (by omega)) 1 _ rfl
                   have p2 := (BZ0.out.below HLe.out.bw (by omega)) 2 _ rfl
                   have o0 := (OZ0.out.below HLe.out.bw (by omega)) 0
                   have o1 := (OZ0.out.below HLe.out.bw (by omega)) 1
                   have o2 := (OZ0.out.below HLe.out.bw (by omega)) 2
                   have ZT : BlkAt (((wr.setCell ⟨w.heap.size + 3, 0, none⟩ (.int .i64 0)).setCell ⟨w.heap.size + 3, 1, none⟩ (.slice none 0 0)).setCell ⟨w.heap.size + 3, 2, none⟩ (.slice none 0 0)) (w.heap.size + 3) [.int .i64 0, .slice none 0 0, .slice none 0 0] := (((BZ0.out.below HLe.out.bw (by omega)).set 0 _ (by simp)).set 1 _ (by simp)).set 2 _ (by simp)
                   have e0 := ZT 0 _ rfl
                   have e1 := ZT 1 _ rfl
                   have e2 := ZT 2 _ rfl
                   have BT : Below w.heap.size w (((wr.setCell ⟨w.heap.size + 3, 0, none⟩ (.int .i64 0)).setCell ⟨w.heap.size + 3, 1, none⟩ (.slice none 0 0)).setCell ⟨w.heap.size + 3, 2, none⟩ (.slice none 0 0)) := (((BW0.trans (HLe.out.bw.mono (by omega))).setCell (p := ⟨w.heap.size + 3, 0, none⟩) (by show w.heap.size ≤ w.heap.size + 3; omega) _).setCell (p := ⟨w.heap.size + 3, 1, none⟩) (by show w.heap.size ≤ w.heap.size + 3; omega) _).setCell (p := ⟨w.heap.size + 3, 2, none⟩) (by show w.heap.size ≤ w.heap.size + 3; omega) _
                   clear ZT
                   go_wp2
                   refine bodyPost_ret (v := .tuple #[.agg #[.int .i64 0, .slice none 0 0, .slice none 0 0], .int .i64 4]) (by simp [results, Tryz.results8, go_sem, e0, e1, e2]) rfl ⟨isKeep_st0 HK.out, BT⟩
                 · by_cases h150 : 150 < s.rs.length
                   · have HK := hidI (keepF_4 HOK.out HRK.out HNX.out HPR.out (.inr h150))
                     have n300 : ¬ (300 : Int) < T'.length := by omega
                     have i150 : (150 : Int) < s.rs.length := by omega
                     have k1 := HLe.out.bl 1 _ rfl
                     have k2' := HLe.out.bl 2 _ rfl
                     have p0 := (BZ0.out.below HLe.out.bw (by omega)) 0 _ rfl
                     have p1 := (BZ0.out.below HLe.out.bw (by omega)) 1 _ rfl
                     have p2 := (BZ0.out.below HLe.out.bw (by omega)) 2 _ rfl
                     have o0 := (OZ0.out.below HLe.out.bw (by omega)) 0
                     have o1 := (OZ0.out.below HLe.out.bw (by omega)) 1
                     have o2 := (OZ0.out.below HLe.out.bw (by omega)) 2
                     have ZT : BlkAt (((wr.setCell ⟨w.heap.size + 3, 0, none⟩ (.int .i64 0)).setCell ⟨w.heap.size + 3, 1, none⟩ (.slice none 0 0)).setCell ⟨w.heap.size + 3, 2, none⟩ (.slice none 0 0)) (w.heap.size + 3) [.int .i64 0, .slice none 0 0, .slice none 0 0] := (((BZ0.out.below HLe.out.bw (by omega)).set 0 _ (by simp)).set 1 _ (by simp)).set 2 _ (by simp)
                     have e0 := ZT 0 _ rfl
                     have e1 := ZT 1 _ rfl
                     have e2 := ZT 2 _ rfl
                     have BT : Below w.heap.size w (((wr.setCell ⟨w.heap.size + 3, 0, none⟩ (.int .i64 0)).setCell ⟨w.heap.size + 3, 1, none⟩ (.slice none 0 0)).setCell ⟨w.heap.size + 3, 2, none⟩ (.slice none 0 0)) := (((BW0.trans (HLe.out.bw.mono (by omega))).setCell (p := ⟨w.heap.size + 3, 0, none⟩) (by show w.heap.size ≤ w.heap.size + 3; omega) _).setCell (p := ⟨w.heap.size + 3, 1, none⟩) (by show w.heap.size ≤ w.heap.size + 3; omega) _).setCell (p := ⟨w.heap.size + 3, 2, none⟩) (by show w.heap.size ≤ w.heap.size + 3; omega) _
                     clear ZT
                     go_wp2
                     refine bodyPost_ret (v := .tuple #[.agg #[.int .i64 0, .slice none 0 0, .slice none 0 0], .int .i64 4]) (by simp [results, Tryz.results8, go_sem, e0, e1, e2]) rfl ⟨isKeep_st0 HK.out, BT⟩
                   · have HK := hidI (keepF_0 HOK.out HRK.out HNX.out HPR.out h300 h150)
                     have n300 : ¬ (300 : Int) < T'.length := by omega
                     have n150 : ¬ (150 : Int) < s.rs.length := by omega
                     have k0 := HLe.out.bl 0 _ rfl
                     have k1 := HLe.out.bl 1 _ rfl
                     have k2' := HLe.out.bl 2 _ rfl
                     have p0 := (BZ0.out.below HLe.out.bw (by omega)) 0 _ rfl
                     have p1 := (BZ0.out.below HLe.out.bw (by omega)) 1 _ rfl
                     have p2 := (BZ0.out.below HLe.out.bw (by omega)) 2 _ rfl
                     have o0 := (OZ0.out.below HLe.out.bw (by omega)) 0
                     have o1 := (OZ0.out.below HLe.out.bw (by omega)) 1
                     have o2 := (OZ0.out.below HLe.out.bw (by omega)) 2
                     have ZT : BlkAt (((wr.setCell ⟨w.heap.size + 3, 0, none⟩ (.int .i64 s.wd)).setCell ⟨w.heap.size + 3, 1, none⟩ ((.slice (some ⟨g', 0, none⟩) T'.length c'))).setCell ⟨w.heap.size + 3, 2, none⟩ ((.slice ra3 s.rs.length rc3))) (w.heap.size + 3) [.int .i64 s.wd, .slice (some ⟨g', 0, none⟩) T'.length c', .slice ra3 s.rs.length rc3] := (((BZ0.out.below HLe.out.bw (by omega)).set 0 _ (by simp)).set 1 _ (by simp)).set 2 _ (by simp)
                     have e0 := ZT 0 _ rfl
                     have e1 := ZT 1 _ rfl
                     have e2 := ZT 2 _ rfl
                     have BT : Below w.heap.size w (((wr.setCell ⟨w.heap.size + 3, 0, none⟩ (.int .i64 s.wd)).setCell ⟨w.heap.size + 3, 1, none⟩ ((.slice (some ⟨g', 0, none⟩) T'.length c'))).setCell ⟨w.heap.size + 3, 2, none⟩ ((.slice ra3 s.rs.length rc3))) := (((BW0.trans (HLe.out.bw.mono (by omega))).setCell (p := ⟨w.heap.size + 3, 0, none⟩) (by show w.heap.size ≤ w.heap.size + 3; omega) _).setCell (p := ⟨w.heap.size + 3, 1, none⟩) (by show w.heap.size ≤ w.heap.size + 3; omega) _).setCell (p := ⟨w.heap.size + 3, 2, none⟩) (by show w.heap.size ≤ w.heap.size + 3; omega) _
                     have HE : Hid (∀ k, k ≠ w.heap.size + 3 → (((wr.setCell ⟨w.heap.size + 3, 0, none⟩ (.int .i64 s.wd)).setCell ⟨w.heap.size + 3, 1, none⟩ ((.slice (some ⟨g', 0, none⟩) T'.length c'))).setCell ⟨w.heap.size + 3, 2, none⟩ ((.slice ra3 s.rs.length rc3))).heap[k]? = wr.heap[k]?) := hidI (fun k hk => (Below.heap_setCell ((wr.setCell ⟨w.heap.size + 3, 0, none⟩ (.int .i64 s.wd)).setCell ⟨w.heap.size + 3, 1, none⟩ (.slice (some ⟨g', 0, none⟩) T'.length c')) ⟨w.heap.size + 3, 2, none⟩ (.slice ra3 s.rs.length rc3) k (by exact hk)).trans ((Below.heap_setCell (wr.setCell ⟨w.heap.size + 3, 0, none⟩ (.int .i64 s.wd)) ⟨w.heap.size + 3, 1, none⟩ (.slice (some ⟨g', 0, none⟩) T'.length c') k (by exact hk)).trans (Below.heap_setCell wr ⟨w.heap.size + 3, 0, none⟩ (.int .i64 s.wd) k (by exact hk))))
                     have HSO : Hid (StOwn (((wr.setCell ⟨w.heap.size + 3, 0, none⟩ (.int .i64 s.wd)).setCell ⟨w.heap.size + 3, 1, none⟩ ((.slice (some ⟨g', 0, none⟩) T'.length c'))).setCell ⟨w.heap.size + 3, 2, none⟩ ((.slice ra3 s.rs.length rc3))) w.heap.size T' s.rs (.slice (some ⟨g', 0, none⟩) T'.length c') (.slice ra3 s.rs.length rc3)) := by
                      have h := HLe.out.rc.keep (W' := (((wr.setCell ⟨w.heap.size + 3, 0, none⟩ (.int .i64 s.wd)).setCell ⟨w.heap.size + 3, 1, none⟩ ((.slice (some ⟨g', 0, none⟩) T'.length c'))).setCell ⟨w.heap.size + 3, 2, none⟩ ((.slice ra3 s.rs.length rc3)))) (fun q t _ _ hq => HE.out q (fun e => by omega))
                      exact ⟨own_low (own_keep' HLe.out.tr (fun q hq => HE.out q (fun e => by have := own_blk HLe.out.tr hq; omega))) (by omega), _, h.len, own_low h.row (by omega), fun i hi => by
                       obtain ⟨a3, c3, e, h3⟩ := h.gl i hi
                       exact ⟨a3, c3, e, own_low h3 (by omega)⟩, h.apart⟩
                     have HIK := hidI (isKeep_ok HK.out HSO.out)
                     clear ZT
                     go_wp2
                     refine bodyPost_ret (v := .tuple #[.agg #[.int .i64 s.wd, .slice (some ⟨g', 0, none⟩) T'.length c', .slice ra3 s.rs.length rc3], .int .i64 0]) (by simp [results, Tryz.results8, go_sem, e0, e1, e2]) rfl ⟨HIK.out, BT⟩
end Go.Proofs.YtkhlekmicpmpkaaGreatDoor
