import Derived.Test.YtkhlekmicpmpkaaGreatDoorM4
import Derived.Test.YtkhlekmicpmpkaaGreatDoorM6
import Derived.Test.YtkhlekmicpmpkaaGreatDoorM7
namespace Go.Proofs.YtkhlekmicpmpkaaGreatDoor
open Go.RowKit Go.Maps
set_option maxRecDepth 100000
set_option linter.unusedVariables false
open Classical in
noncomputable def keepC (W : Int) (ts : List ByteArray) (rs : List R3) (m : M3) (ls : List L4) (c : Int) (t : ByteArray) : Int :=
 if ¬ RanOk m ls c t then 2 else if (putAll W (fmL ls c t) (ts, true)).2 = false then 3 else
 if 300 < (putAll W (fmL ls c t) (ts, true)).1.length ∨ 150 < (putR rs (recR W m ls c t)).length then 4 else 0
theorem c62v {c : Int} {s : ByteArray} {v : Bool} (hv : vr c s.data.toList = v) (w : World) (hs : s.size ≤ 1048700) : Calls Tryz.prog 62 #[.agg #[.int .i64 c, .string s]] w fun e w' => e = .returned (.bool v) ∧ Below w.heap.size w w' := hv ▸ c62 c s w hs
theorem key_size {m : M3} (h : okM m = true) : (keyR m).size ≤ 321 := by
 unfold okM nameOk at h
 simp only [Bool.and_eq_true, decide_eq_true_eq] at h
 have e : m.tl.data.toList.length = m.tl.size := Array.length_toList
 have h1 := h.1.2.1.2
 have h2 := h.2
 unfold keyR
 rw [ByteArray.size_append, ByteArray.size_append]
 have e1 : (⟨#[32]⟩ : ByteArray).size = 1 := rfl
 omega
theorem wrap_sum {a : Int} (h : 0 ≤ a ∧ a ≤ 1000000) : IntKind.i64.wrap a = a := by
 exact IntWalk.i64_in a (by omega)
theorem insT_len (W : Int) (t : ByteArray) (ts : List ByteArray) : (insT W t ts).length = ts.length + 1 := by
 have h := congrArg List.length (insT_map W t ts)
 rw [List.length_map, (insK_perm _ _).length_eq] at h
 simpa using h
theorem putT_len (W : Int) (t : ByteArray) (ts : List ByteArray) : (putT W t ts).1.length ≤ ts.length + 1 := by
 unfold putT
 split
 · exact Nat.le_succ _
 · rw [insT_len]; exact Nat.le_refl _
theorem putAll_len (W : Int) : ∀ (a ts : List ByteArray) (b : Bool), (putAll W a (ts, b)).1.length ≤ ts.length + a.length
 | [], ts, b => Nat.le_refl _
 | t :: r, ts, b => by
  have h1 := putAll_len W r (putT W t ts).1 (b && (putT W t ts).2)
  have h2 := putT_len W t ts
  have e : putAll W (t :: r) (ts, b) = putAll W r ((putT W t ts).1, b && (putT W t ts).2) := rfl
  rw [e, List.length_cons]
  omega
theorem gl_row {E : World} {base n : Nat} {a5 : Option Addr} {c5 : Nat} {W : Int} {ls : List L4} (h : E.ownsRow base 92 3 (.slice a5 n c5) ls.length (glC W ls)) : GlsAt E a5 (ls.map (recG W)) ∧ (ls.map (recG W) = [] ∨ ∃ b off, a5 = some ⟨b, off, none⟩ ∧ ∃ cur fr, E.heap[b]? = some (.cells cur 92 fr)) := by
 have hrow := h
 have hgl : ∀ (l : List L4) (k : Nat), k < l.length → (glC W l)[k * 3]? = some (.bool (l.getD k l4z).has) ∧ (glC W l)[k * 3 + 1]? = some (.string (l.getD k l4z).nm) ∧ (glC W l)[k * 3 + 2]? = some (.string (sumS (glT (l.getD k l4z)) W)) := by
  intro l
  induction l with
  | nil => intro k hk; exact absurd hk (Nat.not_lt_zero _)
  | cons x r ih =>
   intro k hk
   cases k with
   | zero => exact ⟨rfl, rfl, rfl⟩
   | succ k =>
    have := ih k (by simpa using hk)
    have e1 : (k + 1) * 3 = k * 3 + 1 + 1 + 1 := by omega
    rw [e1]
    exact this
 rcases h.2 with ⟨hv, h0⟩ | ⟨g, cap, cur, hv, hg, hh, _⟩
 · have e := List.length_eq_zero_iff.1 h0
   subst e
   exact ⟨.inl rfl, .inl rfl⟩
 · simp only [Value.slice.injEq] at hv
   obtain ⟨rfl, rfl, rfl⟩ := hv
   refine ⟨.inr ⟨g, 0, rfl, (Array.getElem?_eq_some_iff.1 hh).1, fun k hk => ?_⟩, .inr ⟨g, 0, rfl, cur, (0, 0), hh⟩⟩
   rw [List.length_map] at hk
   have e : (ls.map (recG W)).getD k g3z = recG W (ls.getD k l4z) := by simp only [List.getD, List.getElem?_map, List.getElem?_eq_getElem hk, Option.map_some, Option.getD_some]
   obtain ⟨e0, e1, e2⟩ := hgl ls k hk
   rw [e]
   refine ⟨?_, ?_, ?_⟩
   · rw [Nat.zero_add, hrow.cellAt (k * 3) (by omega)]; exact e0
   · rw [Nat.zero_add, hrow.cellAt (k * 3 + 1) (by omega)]; exact e1
   · rw [Nat.zero_add, hrow.cellAt (k * 3 + 2) (by omega)]; exact e2
theorem Fr.vals {W : Int} {l f : List (ByteArray × Value)} {ts : List ByteArray} (h : Fr W l f ts) : ∀ p ∈ f, ∃ q, p.2 = mk3 q := fun p hp => by
 obtain ⟨y, _, rfl⟩ := List.mem_map.1 (h.perm.mem_iff.2 (List.mem_append_left l hp))
 exact ⟨(y, hC y, hT y), rfl⟩
theorem putR_len {rs : List R3} {x : R3} (h : rs.length ≤ 150) : 150 < (putR rs x).length ↔ x ∉ rs ∧ rs.length = 150 := by
 unfold putR
 split
 · rename_i hx
   constructor
   · intro h1; omega
   · intro h1; exact absurd hx h1.1
 · rename_i hx
   simp only [List.length_append, List.length_singleton]
   constructor
   · intro h1; exact ⟨hx, by omega⟩
   · intro h1; omega
theorem gl_size {x : L4} (h : x.tx.size ≤ 1048576) : (glT x).size ≤ 1048700 := by
 unfold glT
 split
 · split <;> decide
 · have := fm_size x.cd x.tx
   unfold fmR at this
   omega
def IsKp (B H bT bR bP : Nat) (W : Int) (ts : List ByteArray) (rs : List R3) (m : M3) (ls : List L4) (c : Int) (t : ByteArray) (w' : World) (e : Ending) : Prop :=
 e = .returned (.int .i64 (keepC W ts rs m ls c t)) ∧ (keepC W ts rs m ls c t = 0 → ∃ rv', Sh B H bT bR bP W ((putAll W (fmL ls c t) (ts, true)).1.map (gT W)) (putR rs (recR W m ls c t)) rv' w')
theorem kp_ne {B H bT bR bP : Nat} {W : Int} {ts : List ByteArray} {rs : List R3} {m : M3} {ls : List L4} {c : Int} {t : ByteArray} {w' : World} {n : Int} (h : keepC W ts rs m ls c t = n) (hn : n ≠ 0) : IsKp B H bT bR bP W ts rs m ls c t w' (.returned (.int .i64 n)) := ⟨by rw [h], fun e => absurd (h.symm.trans e) hn⟩
theorem kp_0 {B H bT bR bP : Nat} {W : Int} {ts : List ByteArray} {rs : List R3} {m : M3} {ls : List L4} {c : Int} {t : ByteArray} {w' : World} {rv' : List Value} (h : keepC W ts rs m ls c t = 0) (hs : Sh B H bT bR bP W ((putAll W (fmL ls c t) (ts, true)).1.map (gT W)) (putR rs (recR W m ls c t)) rv' w') : IsKp B H bT bR bP W ts rs m ls c t w' (.returned (.int .i64 0)) := ⟨by rw [h], fun _ => ⟨rv', hs⟩⟩
set_option maxHeartbeats 8000000 in
theorem c34 (B H bT bR bP : Nat) (W : Int) (ts : List ByteArray) (rs : List R3) (rv : List Value) (m : M3) (ls : List L4) (c : Int) (t : ByteArray) (a : Option Addr) (cap : Nat) (w : World) (hSh : Sh B H bT bR bP W (ts.map (gT W)) rs rv w) (hW : 1 ≤ W ∧ W ≤ 8) (hA : AscT W ts) (htl : ts.length ≤ 300) (hrl : rs.length ≤ 150) (hgs : ∀ i, (rs.getD i r3z).gs.length ≤ 1048576) (hm : m.le 1048576) (hl : ls.length ≤ 1048576) (hs : ∀ i, (ls.getD i l4z).le 1048576) (ht : t.size ≤ 1048576) (hat : LksAt w a ls) :
 Calls Tryz.prog 34 #[.pointer (some ⟨H, 0, none⟩), .agg #[.string m.nm, .string m.tl, .string m.ar], .slice a ls.length cap, .agg #[.int .i64 c, .string t]] w fun e w' => IsKp B H bT bR bP W ts rs m ls c t w' e ∧ Below B w w' := by
 have hBw : B ≤ w.heap.size := by obtain ⟨pl, h1, _⟩ := hSh; have := h1.hH; have := h1.lt; omega
 have BW0 : Below w.heap.size w ((w.alloc (.cells #[.string m.nm, .string m.tl, .string m.ar] 41)).alloc (.cells #[.int .i64 c, .string t] 45)) := ((Below.refl _ _).alloc (Nat.le_refl _) _).alloc (by simp) _
 have s0 : ((w.alloc (.cells #[.string m.nm, .string m.tl, .string m.ar] 41)).alloc (.cells #[.int .i64 c, .string t] 45)).heap.size = w.heap.size + 2 := by simp
 have BK0 : Hid (BlkAt ((w.alloc (.cells #[.string m.nm, .string m.tl, .string m.ar] 41)).alloc (.cells #[.int .i64 c, .string t] 45)) w.heap.size [.string m.nm, .string m.tl, .string m.ar]) := hidI ((blk_new w [.string m.nm, .string m.tl, .string m.ar] 41).below (N := w.heap.size + 1) ((Below.refl _ _).alloc (by simp) _) (by omega))
 have BC0 : Hid (BlkAt ((w.alloc (.cells #[.string m.nm, .string m.tl, .string m.ar] 41)).alloc (.cells #[.int .i64 c, .string t] 45)) (w.heap.size + 1) [.int .i64 c, .string t]) := by have h := blk_new (w.alloc (.cells #[.string m.nm, .string m.tl, .string m.ar] 41)) [.int .i64 c, .string t] 45; rw [show (w.alloc (.cells #[.string m.nm, .string m.tl, .string m.ar] 41)).heap.size = w.heap.size + 1 by simp] at h; exact h
 have k0 := BK0.out 0 _ rfl
 have k1 := BK0.out 1 _ rfl
 have k2 := BK0.out 2 _ rfl
 have HSH := hidI hSh
 have hkR : m.tl.size ≤ 1048576 ∧ m.ar.size ≤ 1048576 := ⟨hm.2.1, hm.2.2⟩
 have HM7 : Hid (m.le 1048700) := ⟨Nat.le_trans hm.1 (by omega), Nat.le_trans hm.2.1 (by omega), Nat.le_trans hm.2.2 (by omega)⟩
 clear hSh
 go_enter Tryz.func34, Tryz.ntmps34
 go_wp2_with fail
 generalize ((w.alloc (.cells #[.string m.nm, .string m.tl, .string m.ar] 41)).alloc (.cells #[.int .i64 c, .string t] 45)) = U1 at *
 cases hn : okM m
 · have HK : Hid (keepC W ts rs m ls c t = 2) := by show keepC _ _ _ _ _ _ _ = 2; unfold keepC; rw [if_pos (fun h => by have h1 := h.1; rw [hn] at h1; cases h1)]
   refine (c60v hn _ HM7.out).mono ?_
   rintro e w1 ⟨rfl, hb1⟩
   go_wp2
   go_ret
   exact ⟨kp_ne HK.out (by decide), (BW0.trans (hb1.mono (by omega))).mono hBw⟩
 · refine (c60v hn _ HM7.out).mono ?_
   rintro e w1 ⟨rfl, hb1⟩
   have s1 := hb1.size
   have BK1 := hidI (BK0.out.below hb1 (by omega))
   have BC1 := hidI (BC0.out.below hb1 (by omega))
   have BW1 := BW0.trans (hb1.mono (by omega))
   clear hb1 k0 k1 k2
   go_wp2_with fail
   refine (c61 a cap ls _ hl hs (lks_below hat BW1)).mono ?_
   rintro e w2 ⟨⟨r, rfl, hr⟩, hb2⟩
   have s2 := hb2.size
   have BK2 := hidI (BK1.out.below hb2 (by omega))
   have BC2 := hidI (BC1.out.below hb2 (by omega))
   have BW2 := BW1.trans (hb2.mono (by omega))
   have j0 := BC2.out 0 _ rfl
   have j1 := BC2.out 1 _ rfl
   clear hb2
   cases r
   · have HK : Hid (keepC W ts rs m ls c t = 2) := by show keepC _ _ _ _ _ _ _ = 2; unfold keepC; rw [if_pos (fun h => absurd (hr.2 h.2.1) (by decide))]
     clear hr
     go_wp2
     go_ret
     exact ⟨kp_ne HK.out (by decide), BW2.mono hBw⟩
   · have hlo := hr.1 rfl
     clear hr
     go_wp2_with fail
     cases hv : vr c t.data.toList
     · have HK : Hid (keepC W ts rs m ls c t = 2) := by show keepC _ _ _ _ _ _ _ = 2; unfold keepC; rw [if_pos (fun h => by have h1 := h.2.2; rw [hv] at h1; cases h1)]
       refine (c62v hv _ (by omega)).mono ?_
       rintro e w3 ⟨rfl, hb3⟩
       have BW3 := BW2.trans (hb3.mono (by omega))
       go_wp2
       go_ret
       exact ⟨kp_ne HK.out (by decide), BW3.mono hBw⟩
     · refine (c62v hv _ (by omega)).mono ?_
       rintro e w3 ⟨rfl, hb3⟩
       have s3 := hb3.size
       have BK3 := hidI (BK2.out.below hb3 (by omega))
       have BC3 := hidI (BC2.out.below hb3 (by omega))
       have BW3 := BW2.trans (hb3.mono (by omega))
       have HRK : Hid (RanOk m ls c t) := ⟨hn, hlo, hv⟩
       have i0 := BC3.out 0 _ rfl
       have i1 := BC3.out 1 _ rfl
       have HL3 := hidI (lks_below hat BW3)
       have HS3 := hidI (HSH.out.below BW3)
       have h63 := c63 B H bT bR bP W ts rs rv ls c t a cap w3 HS3.out hW hA hlo hv hl HL3.out
       clear hb3 j0 j1
       go_wp2_with fail
       refine h63.mono ?_
       rintro e w4 ⟨hfr, hb4⟩
       clear h63
       have s4 := hb4.size
       have BK4 := hidI (BK3.out.below hb4 (by omega))
       have BC4 := hidI (BC3.out.below hb4 (by omega))
       have BW4 := BW3.trans (hb4.mono (by omega))
       rcases hfr with ⟨bF, f, ts', rfl, hbF, hmF, hFr, hpu⟩ | ⟨rfl, hno⟩
       · have HFr := hidI hFr
         have HPU := hidI hpu
         have HMF := hidI hmF
         have HS4 := hidI (HS3.out.below hb4)
         have HL4 := hidI (lks_below HL3.out hb4)
         have q0 := BC4.out 0 _ rfl
         have q1 := BC4.out 1 _ rfl
         have p0 := BK4.out 0 _ rfl
         have p1 := BK4.out 1 _ rfl
         have p2 := BK4.out 2 _ rfl
         have hfl : f.length + ts.length = ts'.length := by have := hFr.done.2; rw [List.length_map] at this; omega
         have hH4 : H < w4.heap.size ∧ w4.cell? ⟨H, 0, none⟩ = some (.int .i64 W) := by obtain ⟨pl, h1, _⟩ := HS4.out; exact ⟨h1.lt, h1.blk 0 _ rfl⟩
         have h64 := c64 m ls c t W H a cap w4 ⟨Nat.le_trans hm.1 (by omega), Nat.le_trans hm.2.1 (by omega), Nat.le_trans hm.2.2 (by omega)⟩ (by omega) (by have := fm_size c t; unfold fmR at this; omega) hl (fun i => ⟨Nat.le_trans (hs i).2 (by omega), gl_size (hs i).2⟩) HL4.out hH4.1 hH4.2
         clear hFr hpu hmF i0 i1
         go_wp2_with fail
         refine h64.mono ?_
         rintro e w5 ⟨⟨v5, rfl, hv5⟩, hb5⟩
         obtain ⟨a5, c5, rfl⟩ := row_form hv5
         clear h64
         have s5 := hb5.size
         have hb5x : Below w4.heap.size w4 (w5.alloc (.cells #[.string (keyR m), .slice a5 ls.length c5, .string (sumS (ofL (formR c t.data.toList)) W)] 67)) := hb5.alloc s5 _
         have sX : (w5.alloc (.cells #[.string (keyR m), .slice a5 ls.length c5, .string (sumS (ofL (formR c t.data.toList)) W)] 67)).heap.size = w5.heap.size + 1 := by simp
         have BWx := BW4.trans (hb5x.mono (by omega))
         have HSx := hidI (HS4.out.below hb5x)
         have HMx := hidI (mp_below HMF.out hb5x HMF.out.lt)
         have EX : Hid (BlkAt (w5.alloc (.cells #[.string (keyR m), .slice a5 ls.length c5, .string (sumS (ofL (formR c t.data.toList)) W)] 67)) w5.heap.size [.string (keyR m), .slice a5 ls.length c5, .string (sumS (ofL (formR c t.data.toList)) W)]) := hidI (blk_new w5 [.string (keyR m), .slice a5 ls.length c5, .string (sumS (ofL (formR c t.data.toList)) W)] 67)
         have hrow := own_below hv5 ((Below.refl _ _).alloc (Nat.le_refl _) (.cells #[.string (keyR m), .slice a5 ls.length c5, .string (sumS (ofL (formR c t.data.toList)) W)] 67))
         have GR := hidI (gl_row hrow)
         obtain ⟨x, hx⟩ : ∃ x, recR W m ls c t = x := ⟨_, rfl⟩
         have HX := hidI hx
         have hxk : x.key = keyR m := by rw [← hx]; rfl
         have hxo : x.out = sumS (ofL (formR c t.data.toList)) W := by rw [← hx]; rfl
         have hxg : x.gs = ls.map (recG W) := by rw [← hx]; rfl
         have hxl : x.gs.length = ls.length := by rw [hxg]; simp
         have hxs : x.key.size ≤ 321 := by rw [hxk]; exact key_size hn
         have HRV : Hid (RecV B (w5.alloc (.cells #[.string (keyR m), .slice a5 ls.length c5, .string (sumS (ofL (formR c t.data.toList)) W)] 67)) (.agg #[.string x.key, .slice a5 x.gs.length c5, .string x.out]) x) := ⟨a5, c5, rfl, by rw [hxg]; exact GR.out.1, by
          rw [hxg]
          rcases GR.out.2 with h | ⟨b, off, h1, h2⟩
          · exact .inl h
          · exact .inr ⟨b, off, h1, .inr h2⟩⟩
         have h65 := c65 B H bT bR bP W _ rs rv x a5 c5 (w5.alloc (.cells #[.string (keyR m), .slice a5 ls.length c5, .string (sumS (ofL (formR c t.data.toList)) W)] 67)) HSx.out (by rw [hxg]; exact GR.out.1) (by omega) (by omega) (by omega) hgs
         rw [hxk, hxl, hxo] at h65
         have z0 := EX.out 0 _ rfl
         have z1 := EX.out 1 _ rfl
         have z2 := EX.out 2 _ rfl
         clear hx
         go_wp2_with fail
         refine h65.mono ?_
         rintro e w6 ⟨⟨bt, rfl, hbt⟩, hb6⟩
         clear h65 z0 z1 z2
         generalize (w5.alloc (.cells #[.string (keyR m), .slice a5 ls.length c5, .string (sumS (ofL (formR c t.data.toList)) W)] 67)) = x5 at *
         have s6 := hb6.size
         have BW6 := BWx.trans (hb6.mono (by omega))
         have HF6 := hidI (mp_below HMx.out hb6 HMx.out.lt)
         have E6 := hidI (EX.out.below hb6 (by omega))
         have RV6 := hidI (HRV.out.kept (below_gb hb6) (fun _ e => by cases e))
         obtain ⟨pl, hC6, hR6⟩ := HSx.out.below hb6
         have HC6 := hidI hC6
         have HR6' := hidI hR6
         have HT6 := hidI hC6.tx
         have HR6 := hidI hC6.rc
         have f1 := hC6.blk 1 _ rfl
         have f2 := hC6.blk 2 _ rfl
         have o0 := E6.out 0 _ rfl
         have o1 := E6.out 1 _ rfl
         have o2 := E6.out 2 _ rfl
         have hbTw : bT < w.heap.size := by obtain ⟨pl', h1, _⟩ := HSH.out; exact h1.tx.lt
         have hrvl := hidI hR6.len
         have hrv2 : rv.length ≤ 150 := by rw [hrvl.out]; exact hrl
         have HDN := hidI HFr.out.done.1
         have hfn : f.length ≤ 16 := by
          have h1 := putAll_len W (fmL ls c t) ts true
          rw [HPU.out] at h1
          have h2 : (fmL ls c t).length = (askR ls).length + 1 := by simp [fmL]
          have h3 := askR_len ls
          have h4 := hlo.1
          simp only at h1
          omega
         have h66 := c66 bT bF _ _ _ f w6 HT6.out HF6.out HFr.out.vals (by omega) (by rw [mapD_size, List.length_map]; unfold maxLen; omega)
         have HKC : Hid (((300 < ts'.length ∨ (x ∉ rs ∧ rs.length = 150)) → keepC W ts rs m ls c t = 4) ∧ (¬ (300 < ts'.length ∨ (x ∉ rs ∧ rs.length = 150)) → keepC W ts rs m ls c t = 0)) := by
          show _ ∧ _
          have e : keepC W ts rs m ls c t = if 300 < ts'.length ∨ 150 < (putR rs x).length then 4 else 0 := by
           unfold keepC
           rw [if_neg (fun h => h HRK.out), HPU.out, if_neg (by simp), HX.out]
          rw [e]
          exact ⟨fun h => if_pos (h.imp id (putR_len hrl).2), fun h => if_neg (fun k => h (k.imp id (putR_len hrl).1))⟩
         have hwr : IntKind.i64.wrap ((ts.length : Int) + (f.length : Int)) = (ts.length : Int) + (f.length : Int) := wrap_sum (by omega)
         have hlT := hC6.tx.len Tryz.underlying101 3
         rw [mapD_size, List.length_map] at hlT
         have hlF := HF6.out.len Tryz.underlying101 3
         rw [mapD_size] at hlF
         have hlR := hC6.rc.len Tryz.underlying102 3
         rw [intD_size] at hlR
         clear hC6 hR6
         by_cases h300 : 300 < ts.length + f.length
         · have HK : Hid (keepC W ts rs m ls c t = 4) := by show keepC _ _ _ _ _ _ _ = 4; exact HKC.out.1 (.inl (by omega))
           have hi3 : (300 : Int) < (ts.length : Int) + (f.length : Int) := by omega
           clear h66
           go_wp2_with fail
           go_ret
           exact ⟨kp_ne HK.out (by decide), BW6.mono hBw⟩
         · have hi3 : ¬ (300 : Int) < (ts.length : Int) + (f.length : Int) := by omega
           cases bt
           · have HNX : Hid (x ∉ rs) := fun h => absurd (hbt.2 h) (by decide)
             by_cases h150 : rv.length = 150
             · have HK : Hid (keepC W ts rs m ls c t = 4) := by show keepC _ _ _ _ _ _ _ = 4; exact HKC.out.1 (.inr ⟨HNX.out, by rw [← hrvl.out]; exact h150⟩)
               clear h66 hbt
               go_wp2_with fail
               go_ret
               exact ⟨kp_ne HK.out (by decide), BW6.mono hBw⟩
             · have HK : Hid (keepC W ts rs m ls c t = 0) := by show keepC _ _ _ _ _ _ _ = 0; exact HKC.out.2 (fun h => h.elim (fun h => by omega) (fun h => h150 (hrvl.out.trans h.2)))
               have hi5 : ((rv.length : Int) == 150) = false := by rw [beq_eq_false_iff_ne]; omega
               clear hbt
               go_wp2_with fail
               refine h66.mono ?_
               rintro e w7 ⟨rfl, hm7, hg7⟩
               rw [HDN.out] at hm7
               replace hm7 := mp_tight hm7
               rw [mapD_size] at hm7
               have C7 := hidI (HC6.out.upT hg7 hm7 HFr.out.asc)
               have R7 := hidI (HR6'.out.mapT hg7 HC6.out)
               have B7 : Below B w6 w7 := gb_below hg7 (fun j e => by cases e; exact HC6.out.hT) (by omega)
               have BB7 : Below B w w7 := (BW6.mono hBw).trans B7
               have neT : some w5.heap.size ≠ some bT := fun e => by have := Option.some.inj e; omega
               have E7 := hidI (blk_kept E6.out hg7 (by omega) neT)
               have u0 := E7.out 0 _ rfl
               have u1 := E7.out 1 _ rfl
               have u2 := E7.out 2 _ rfl
               have RV7 := RV6.out.kept hg7 (by obtain ⟨es, ck, hh⟩ := mp_isMap HC6.out.tx; exact noRow_map HC6.out.hT hh)
               have h59 := c59 B H bT bR bP W _ rs rv x a5 c5 w7 ⟨pl, C7.out, R7.out⟩ RV7 (by omega) (by omega)
               rw [hxk, hxl, hxo] at h59
               clear h66 hm7 hg7
               go_wp2_with fail
               refine h59.mono ?_
               rintro e w8 ⟨rfl, hS8, hB8⟩
               have HS8 : Hid (Sh B H bT bR bP W ((putAll W (fmL ls c t) (ts, true)).1.map (gT W)) (putR rs (recR W m ls c t)) (rv ++ [.agg #[.string (keyR m), .slice a5 ls.length c5, .string (sumS (ofL (formR c t.data.toList)) W)]]) w8) := by
                show Sh _ _ _ _ _ _ _ _ _ _
                rw [HPU.out, HX.out, putR, if_neg HNX.out]
                exact hS8
               clear h59 hS8
               go_wp2
               go_ret
               exact ⟨kp_0 HK.out HS8.out, BB7.trans hB8⟩
           · have HIX : Hid (x ∈ rs) := by show x ∈ rs; simpa using hbt
             have HK : Hid (keepC W ts rs m ls c t = 0) := by show keepC _ _ _ _ _ _ _ = 0; exact HKC.out.2 (fun h => h.elim (fun h => by omega) (fun h => h.1 HIX.out))
             clear hbt
             go_wp2_with fail
             refine h66.mono ?_
             rintro e w7 ⟨rfl, hm7, hg7⟩
             rw [HDN.out] at hm7
             replace hm7 := mp_tight hm7
             rw [mapD_size] at hm7
             have C7 := hidI (HC6.out.upT hg7 hm7 HFr.out.asc)
             have R7 := hidI (HR6'.out.mapT hg7 HC6.out)
             have B7 : Below B w6 w7 := gb_below hg7 (fun j e => by cases e; exact HC6.out.hT) (by omega)
             have BB7 : Below B w w7 := (BW6.mono hBw).trans B7
             have HS8 : Hid (Sh B H bT bR bP W ((putAll W (fmL ls c t) (ts, true)).1.map (gT W)) (putR rs (recR W m ls c t)) rv w7) := by
              show Sh _ _ _ _ _ _ _ _ _ _
              rw [HPU.out, HX.out, putR, if_pos HIX.out]
              exact ⟨pl, C7.out, R7.out⟩
             clear h66 hm7 hg7
             go_wp2
             go_ret
             exact ⟨kp_0 HK.out HS8.out, BB7⟩
       · have HK : Hid (keepC W ts rs m ls c t = 3) := by show keepC _ _ _ _ _ _ _ = 3; unfold keepC; rw [if_neg (fun h => h HRK.out), if_pos hno]
         go_wp2
         go_ret
         exact ⟨kp_ne HK.out (by decide), BW4.mono hBw⟩
end Go.Proofs.YtkhlekmicpmpkaaGreatDoor
