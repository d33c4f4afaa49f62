import Derived.Test.YtboojefodbjbcaaGreatDoorZR29
namespace Go.Proofs.YtboojefodbjbcaaGreatDoor
open Go.RowKit Go.Maps
set_option maxRecDepth 100000
set_option linter.unusedVariables false
theorem flat3_len {α : Type} (f : α → List Value) (hf : ∀ a, (f a).length = 3) (l : List α) : (l.flatMap f).length = l.length * 3 := by
 induction l with
 | nil => rfl
 | cons x r ih => rw [List.flatMap_cons, List.length_append, hf, ih, List.length_cons]; omega
theorem rC_len (P : List R3) (vs : List Value) : (rC P vs).length = P.length * 3 := by
 unfold rC
 rw [flat3_len _ (fun _ => rfl), List.length_range]
theorem rC_ext {P : List R3} {vs l : List Value} (hl : l.length = P.length * 3) (h : ∀ q, q < P.length → l[q * 3]? = some (.string (P.getD q r3z).key) ∧ l[q * 3 + 1]? = some (vs.getD q undef) ∧ l[q * 3 + 2]? = some (.string (P.getD q r3z).out)) : l = rC P vs := by
 refine List.ext_getElem? fun j => ?_
 by_cases hj : j < P.length * 3
 · obtain ⟨q, r, e, hr⟩ : ∃ q r, j = q * 3 + r ∧ r < 3 := ⟨j / 3, j % 3, by omega, by omega⟩
   have hq : q < P.length := by omega
   obtain ⟨a0, a1, a2⟩ := h q hq
   obtain ⟨b0, b1, b2⟩ := rC_at P vs q hq
   have : r = 0 ∨ r = 1 ∨ r = 2 := by omega
   rcases this with rfl | rfl | rfl
   · rw [e, Nat.add_zero, a0, b0]
   · rw [e, a1, b1]
   · rw [e, a2, b2]
 · rw [List.getElem?_eq_none (by omega), List.getElem?_eq_none (by rw [rC_len]; omega)]
theorem rC_key {P : List R3} {vs : List Value} {k : Nat} (hk : k < P.length) (t : ByteArray) : (rC P vs).set (k * 3) (.string t) = rC (P.set k ⟨t, (P.getD k r3z).gs, (P.getD k r3z).out⟩) vs := by
 refine rC_ext (by simp [rC_len]) (fun q hq => ?_)
 rw [List.length_set] at hq
 obtain ⟨b0, b1, b2⟩ := rC_at P vs q hq
 by_cases e : q = k
 · subst e
   rw [getD_set_same hq]
   rw [List.getElem?_set_self (by rw [rC_len]; omega), List.getElem?_set_ne (by omega), List.getElem?_set_ne (by omega)]
   exact ⟨rfl, b1, b2⟩
 · rw [getD_set_other (fun h => e h.symm), List.getElem?_set_ne (by omega), List.getElem?_set_ne (by omega), List.getElem?_set_ne (by omega)]
   exact ⟨b0, b1, b2⟩
theorem rC_out {P : List R3} {vs : List Value} {k : Nat} (hk : k < P.length) (t : ByteArray) : (rC P vs).set (k * 3 + 2) (.string t) = rC (P.set k ⟨(P.getD k r3z).key, (P.getD k r3z).gs, t⟩) vs := by
 refine rC_ext (by simp [rC_len]) (fun q hq => ?_)
 rw [List.length_set] at hq
 obtain ⟨b0, b1, b2⟩ := rC_at P vs q hq
 by_cases e : q = k
 · subst e
   rw [getD_set_same hq]
   rw [List.getElem?_set_self (by rw [rC_len]; omega), List.getElem?_set_ne (by omega), List.getElem?_set_ne (by omega)]
   exact ⟨b0, b1, rfl⟩
 · rw [getD_set_other (fun h => e h.symm), List.getElem?_set_ne (by omega), List.getElem?_set_ne (by omega), List.getElem?_set_ne (by omega)]
   exact ⟨b0, b1, b2⟩
theorem rC_gl {P : List R3} {vs : List Value} {k : Nat} (hk : k < P.length) (gs : List G3) : rC P vs = rC (P.set k ⟨(P.getD k r3z).key, gs, (P.getD k r3z).out⟩) vs := by
 refine rC_ext (by simp [rC_len]) (fun q hq => ?_)
 rw [List.length_set] at hq
 obtain ⟨b0, b1, b2⟩ := rC_at P vs q hq
 by_cases e : q = k
 · subst e
   rw [getD_set_same hq]
   exact ⟨b0, b1, b2⟩
 · rw [getD_set_other (fun h => e h.symm)]
   exact ⟨b0, b1, b2⟩
theorem rec_key {W : World} {N g cap : Nat} {P : List R3} {vs : List Value} {k : Nat} (h : RecOwn W N (.slice (some ⟨g, 0, none⟩) P.length cap) P vs) (hk : k < P.length) (t : ByteArray) : RecOwn (W.setCell ⟨g, k * 3, none⟩ (.string t)) N (.slice (some ⟨g, 0, none⟩) P.length cap) (P.set k ⟨t, (P.getD k r3z).gs, (P.getD k r3z).out⟩) vs := by
 refine ⟨by simp [h.len], ?_, fun i hi => ?_, fun i j hi hj => h.apart i j (by simpa using hi) (by simpa using hj)⟩
 · have s := (h.row.stored (k * 3) (.string t)).1
   rw [rC_key hk] at s
   rw [List.length_set]
   exact s
 · rw [List.length_set] at hi
   obtain ⟨a, c, e, h3⟩ := h.gl i hi
   have eg : ((P.set k ⟨t, (P.getD k r3z).gs, (P.getD k r3z).out⟩).getD i r3z).gs = (P.getD i r3z).gs := by
    by_cases ei : i = k
    · subst ei; rw [getD_set_same hi]
    · rw [getD_set_other (fun h => ei h.symm)]
   rw [eg]
   refine ⟨a, c, e, own_keep' h3 (fun q hq => Below.heap_setCell _ _ _ _ (fun eq => ?_))⟩
   have eq' : q = g := eq
   subst eq'
   exact absurd (ofT_one (own_ofT h3 hq) (own_ofT h.row rfl)) (by decide)
theorem rec_out {W : World} {N g cap : Nat} {P : List R3} {vs : List Value} {k : Nat} (h : RecOwn W N (.slice (some ⟨g, 0, none⟩) P.length cap) P vs) (hk : k < P.length) (t : ByteArray) : RecOwn (W.setCell ⟨g, k * 3 + 2, none⟩ (.string t)) N (.slice (some ⟨g, 0, none⟩) P.length cap) (P.set k ⟨(P.getD k r3z).key, (P.getD k r3z).gs, t⟩) vs := by
 refine ⟨by simp [h.len], ?_, fun i hi => ?_, fun i j hi hj => h.apart i j (by simpa using hi) (by simpa using hj)⟩
 · have s := (h.row.stored (k * 3 + 2) (.string t)).1
   rw [rC_out hk] at s
   rw [List.length_set]
   exact s
 · rw [List.length_set] at hi
   obtain ⟨a, c, e, h3⟩ := h.gl i hi
   have eg : ((P.set k ⟨(P.getD k r3z).key, (P.getD k r3z).gs, t⟩).getD i r3z).gs = (P.getD i r3z).gs := by
    by_cases ei : i = k
    · subst ei; rw [getD_set_same hi]
    · rw [getD_set_other (fun h => ei h.symm)]
   rw [eg]
   refine ⟨a, c, e, own_keep' h3 (fun q hq => Below.heap_setCell _ _ _ _ (fun eq => ?_))⟩
   have eq' : q = g := eq
   subst eq'
   exact absurd (ofT_one (own_ofT h3 hq) (own_ofT h.row rfl)) (by decide)
theorem rec_gl {W W' : World} {N : Nat} {v : Value} {P : List R3} {vs : List Value} {k : Nat} (h : RecOwn W N v P vs) (hk : k < P.length) {a : Option Addr} {n c : Nat} {gs : List G3} (hv : vs.getD k undef = .slice a n c) (hg : W.grownBy W' (Value.slice a n c).ownBlock) (hn : gs.length = n) (ho : W'.ownsRow N 127 3 (.slice a n c) n (gC gs)) : RecOwn W' N v (P.set k ⟨(P.getD k r3z).key, gs, (P.getD k r3z).out⟩) vs := by
 subst hn
 obtain ⟨ak, ck, ek, h3k⟩ := h.gl k hk
 rw [← hv] at hg
 refine ⟨by simp [h.len], ?_, fun i hi => ?_, fun i j hi hj => h.apart i j (by simpa using hi) (by simpa using hj)⟩
 · rw [← rC_gl hk, List.length_set]
   refine own_keep' h.row (fun q hq => hg.block q (own_lt h.row hq) (fun e => ?_))
   rw [ek] at e
   exact absurd (ofT_one (own_ofT h.row hq) (own_ofT h3k e.symm)) (by decide)
 · rw [List.length_set] at hi
   by_cases ei : i = k
   · subst ei
     rw [getD_set_same hi]
     exact ⟨a, c, hv, ho⟩
   · rw [getD_set_other (fun h => ei h.symm)]
     obtain ⟨a3, cx3, e, h3⟩ := h.gl i hi
     refine ⟨a3, cx3, e, own_keep' h3 (fun q hq => hg.block q (own_lt h3 hq) (fun eq => ?_))⟩
     rw [← e] at hq
     rcases h.apart k i hk hi (fun h => ei h.symm) with hx | hx
     · rw [hx] at eq; cases eq
     · exact hx (by rw [← eq, hq])
def kn (K : Int) (rs : List R3) (i : Nat) : Int := K + 2 * (i : Int) + 3 * (gsum (rs.take i) : Int)
theorem kn_next {K : Int} {rs : List R3} {k : Nat} (h : k < rs.length) : kn K rs (k + 1) = kn K rs k + 1 + 3 * ((rs.getD k r3z).gs.length : Int) + 1 := by
 unfold kn
 rw [gsum_next h]
 omega
theorem gsum_take (rs : List R3) (k : Nat) : gsum (rs.take k) ≤ gsum rs := by
 unfold gsum
 conv => rhs; rw [← List.take_append_drop k rs]
 rw [List.map_append, List.sum_append]
 omega
theorem gsum_le {rs : List R3} {k : Nat} (h : k < rs.length) : gsum (rs.take k) + (rs.getD k r3z).gs.length ≤ gsum rs := by
 rw [← gsum_next h]
 exact gsum_take _ _
structure MkR1 (K : Int) (n : Nat) (y : R3) : Prop where
 key : y.key = mtx K
 gs : MkG (K + 1) n y.gs
 out : y.out = mtx (K + 1 + 3 * (n : Int))
def MkR (K : Int) (rs P : List R3) : Prop := P.length = rs.length ∧ ∀ j, j < rs.length → MkR1 (kn K rs j) (rs.getD j r3z).gs.length (P.getD j r3z)
def recF (v : Value) (vs : List Value) (n : Nat) (k : Nat) : Prop := v.ownBlock = some k ∨ ∃ i, i < n ∧ (vs.getD i undef).ownBlock = some k
set_option maxHeartbeats 4000000 in
theorem c58 (K : Int) (a : Option Addr) (cap N n : Nat) (rs : List R3) (vs : List Value) (w : World) (hn : rs.length = n) (h1 : 1 ≤ K) (h2 : K + 2 * (n : Int) + 3 * (gsum rs : Int) ≤ 4900000) (hl : n ≤ 1048576) (ho : RecOwn w N (.slice a n cap) rs vs) :
 Calls Tryz.prog 58 #[.slice a n cap, .int .i64 K] w fun e w' => e = .returned (.int .i64 (kn K rs n)) ∧ (∃ P, MkR K rs P ∧ RecOwn w' N (.slice a n cap) P vs) ∧ Chg (recF (.slice a n cap) vs n) w w' := by
 have HO := hidI ho
 clear ho
 go_enter Tryz.func58, Tryz.ntmps58
 go_wp2_with fail
 go_loopw [1, 5] (fun q i wr => ∃ (k : Nat) (P : List R3), k ≤ n ∧ i = .int .i64 k ∧ q = .int .i64 (kn K rs k) ∧ P.length = n ∧ Hid (∀ j, j < k → MkR1 (kn K rs j) (rs.getD j r3z).gs.length (P.getD j r3z)) ∧ Hid (∀ j, k ≤ j → (P.getD j r3z).gs.length = (rs.getD j r3z).gs.length) ∧ Hid (RecOwn wr N (.slice a n cap) P vs) ∧ Hid (Chg (recF (.slice a n cap) vs n) w wr)) (fun _ i _ => n - (Go.RowKit.intOf i).toNat)
 case atStart => exact ⟨0, rs, Nat.zero_le _, rfl, by simp [kn, gsum], hn, fun j h => absurd h (Nat.not_lt_zero _), fun j _ => rfl, HO, Chg.refl _ _⟩
 case round =>
  obtain ⟨k, P, hk, rfl, rfl, hP, hd, hr, hown, hg⟩ := hrel
  by_cases hlt : k < n
  · have hk2 := kn_next (K := K) (rs := rs) (k := k) (by omega)
    have hgs := gsum_le (rs := rs) (k := k) (by omega)
    have hkn : kn K rs k = K + 2 * (k : Int) + 3 * (gsum (rs.take k) : Int) := rfl
    have hgl := hr.out k (Nat.le_refl _)
    have hb1 : 1 ≤ kn K rs k := by omega
    have hb2 : kn K rs k + 3 * ((rs.getD k r3z).gs.length : Int) ≤ 4900000 := by omega
    have hb3 : (rs.getD k r3z).gs.length ≤ 1048576 + 1048576 := by omega
    generalize hKK : kn K rs k = KK at *
    generalize (rs.getD k r3z).gs.length = G at *
    have HKK := hidI hKK
    have HK2 := hidI hk2
    clear hkn hgs hKK hk2
    subst hP
    obtain ⟨g, rfl, hgw⟩ := row_addr hown.out.row (by omega)
    obtain ⟨a0, a1, a2⟩ := rC_at P vs k hlt
    obtain ⟨ai, ci, ek, h3k⟩ := hown.out.gl k hlt
    rw [hgl] at ek h3k
    have q0 := (hown.out.row.cellAt (k * 3) (by omega)).trans a0
    have f0 := hown.out.row.frozenAt (k * 3)
    have q1 := (hown.out.row.cellAt (k * 3 + 1) (by omega)).trans a1
    rw [ek] at q1
    clear a0 a1 a2 h3k
    go_wp2_with fail
    refine (c60 _ _ (by omega) (by omega)).mono ?_
    rintro e w1 ⟨rfl, hb1'⟩
    have p0 := (hb1'.cell (p := ⟨g, k * 3, none⟩) hgw).trans q0
    have pf := (hb1'.frozen (p := ⟨g, k * 3, none⟩) hgw).trans f0
    have O1 : RecOwn w1 N (.slice (some ⟨g, 0, none⟩) P.length cap) P vs := hown.out.keep (fun q t hT _ _ => hb1'.block q (ofT_lt hT))
    have hgw1 : g < w1.heap.size := Nat.lt_of_lt_of_le hgw hb1'.size
    have q1' : (w1.setCell ⟨g, k * 3, none⟩ (.string (ofL (109 :: dec KK)))).cell? ⟨g, k * 3 + 1, none⟩ = some (.slice ai G ci) := (World.cell?_setCell_other _ _ _ _ (adr_ne (by omega))).trans ((hb1'.cell (p := ⟨g, k * 3 + 1, none⟩) hgw).trans q1)
    have O2 := rec_key O1 hlt (mtx KK)
    have C2 : Chg (recF (.slice (some ⟨g, 0, none⟩) P.length cap) vs P.length) w (w1.setCell ⟨g, k * 3, none⟩ (.string (mtx KK))) := hg.out.trans ((chg_below hb1').trans (chg_grown (O1.row.stored (k * 3) (.string (mtx KK))).2 (fun q e => .inl (by rw [← e]; rfl))))
    obtain ⟨ai', ci', ek', h3k⟩ := O2.gl k (by simpa using hlt)
    rw [getD_set_same hlt] at ek' h3k
    simp only [hgl] at ek' h3k
    rw [ek] at ek'
    cases ek'
    have E2 : Hid (w1.setCell ⟨g, k * 3, none⟩ (.string (mtx KK)) = w1.setCell ⟨g, k * 3, none⟩ (.string (ofL (109 :: dec KK)))) := rfl
    have HO2 := hidI O2
    have HC2 := hidI C2
    have HEK := hidI ek
    have h72 := c101 (KK + 1) ai ci N (P.getD k r3z).gs (w1.setCell ⟨g, k * 3, none⟩ (.string (mtx KK))) (by omega) (by omega) (by rw [hgl]; omega) (by rw [hgl]; exact h3k)
    rw [hgl] at h72
    rw [E2.out] at h72
    clear O1 O2 C2 h3k ek q0 q1 f0 hb1'
    go_wp2_with fail
    refine h72.mono ?_
    rintro e w2 ⟨rfl, ⟨gs', hmk, hrow2⟩, hg2⟩
    rw [← E2.out] at hg2
    have O3 := rec_gl HO2.out (by simpa using hlt) HEK.out hg2 hmk.1 hrow2
    have C3 : Chg (recF (.slice (some ⟨g, 0, none⟩) P.length cap) vs P.length) w w2 := HC2.out.trans (chg_grown hg2 (fun q e => .inr ⟨k, hlt, by rw [HEK.out]; exact e⟩))
    have HO3 := hidI O3
    have HC3 := hidI C3
    have HMK := hidI hmk
    have hgw2 : g < w2.heap.size := by have := hg2.size; simp at this; omega
    clear h72 hrow2 hg2 O3 C3 hmk p0 pf
    have L3 : ((P.set k ⟨mtx KK, (P.getD k r3z).gs, (P.getD k r3z).out⟩).set k ⟨((P.set k ⟨mtx KK, (P.getD k r3z).gs, (P.getD k r3z).out⟩).getD k r3z).key, gs', ((P.set k ⟨mtx KK, (P.getD k r3z).gs, (P.getD k r3z).out⟩).getD k r3z).out⟩) = P.set k ⟨mtx KK, gs', (P.getD k r3z).out⟩ := by
     rw [getD_set_same hlt, List.set_set]
    rw [L3] at HO3
    clear L3
    have PL : (P.set k ⟨mtx KK, gs', (P.getD k r3z).out⟩).length = P.length := by simp
    have R3' := HO3.out
    rw [← PL] at R3'
    obtain ⟨a0, a1, a2⟩ := rC_at (P.set k ⟨mtx KK, gs', (P.getD k r3z).out⟩) vs k (by rw [PL]; exact hlt)
    have q2 := (R3'.row.cellAt (k * 3 + 2) (by rw [PL]; omega)).trans a2
    have f2 := R3'.row.frozenAt (k * 3 + 2)
    clear a0 a1 a2
    go_wp2_with fail
    refine (c60 _ _ (by omega) (by omega)).mono ?_
    rintro e w3 ⟨rfl, hb3'⟩
    have p2 := (hb3'.cell (p := ⟨g, k * 3 + 2, none⟩) hgw2).trans q2
    have pf2 := (hb3'.frozen (p := ⟨g, k * 3 + 2, none⟩) hgw2).trans f2
    have O4 : RecOwn w3 N (.slice (some ⟨g, 0, none⟩) (P.set k ⟨mtx KK, gs', (P.getD k r3z).out⟩).length cap) (P.set k ⟨mtx KK, gs', (P.getD k r3z).out⟩) vs := R3'.keep (fun q t hT _ _ => hb3'.block q (ofT_lt hT))
    have C5 : Chg (recF (.slice (some ⟨g, 0, none⟩) P.length cap) vs P.length) w (w3.setCell ⟨g, k * 3 + 2, none⟩ (.string (mtx (KK + 1 + 3 * (G : Int))))) := HC3.out.trans ((chg_below hb3').trans (chg_grown (O4.row.stored (k * 3 + 2) (.string (mtx (KK + 1 + 3 * (G : Int))))).2 (fun q e => .inl (by rw [← e]; rfl))))
    have O5 := rec_out O4 (by rw [PL]; exact hlt) (mtx (KK + 1 + 3 * (G : Int)))
    rw [getD_set_same hlt, List.set_set, PL] at O5
    have HO5 := hidI O5
    have HC5 := hidI C5
    have HD5 : Hid (∀ j, j < k + 1 → MkR1 (kn K rs j) (rs.getD j r3z).gs.length ((P.set k ⟨mtx KK, gs', mtx (KK + 1 + 3 * (G : Int))⟩).getD j r3z)) := fun j hj => by
     by_cases e : j = k
     · subst e
       rw [getD_set_same hlt, HKK.out, ← hr.out j (Nat.le_refl _), hgl]
       exact ⟨rfl, HMK.out, rfl⟩
     · rw [getD_set_other (fun h => e h.symm)]; exact hd.out j (by omega)
    have HR5 : Hid (∀ j, k + 1 ≤ j → ((P.set k ⟨mtx KK, gs', mtx (KK + 1 + 3 * (G : Int))⟩).getD j r3z).gs.length = (rs.getD j r3z).gs.length) := fun j hj => by
     rw [getD_set_other (by omega)]; exact hr.out j (by omega)
    clear O4 O5 C5 R3' HO3 HC3 hd hr hown hg q2 f2 hb3' HO2 HC2
    go_wp2
    go_roundw
    case rel => exact ⟨k + 1, _, by omega, by go_num, by rw [HK2.out], by simp, HD5, HR5, HO5, HC5⟩
    case measure => simp [Go.RowKit.intOf]; omega
  · obtain rfl : k = n := by omega
    go_wp2
    go_ret
    exact ⟨rfl, ⟨P, ⟨hP.trans hn.symm, fun j hj => hd.out j (by omega)⟩, hown.out⟩, hg.out⟩
def stF (tv rv : Value) (vs : List Value) (n : Nat) (k : Nat) : Prop := tv.ownBlock = some k ∨ recF rv vs n k
def mkN (K : Int) (ts : List ByteArray) (rs : List R3) : Int := kn (K + (ts.length : Int)) rs rs.length
set_option maxHeartbeats 2000000 in
theorem c19 (K : Int) (s : St) (ta ra : Option Addr) (tc rc N : Nat) (vs : List Value) (w : World) (h1 : 1 ≤ K) (h2 : K + (s.ts.length : Int) + 2 * (s.rs.length : Int) + 3 * (gsum s.rs : Int) ≤ 4900000) (hl : s.ts.length ≤ 1048576) (hl2 : s.rs.length ≤ 1048576) (hN : N ≤ w.heap.size) (ht : w.ownsRow N 9 1 (.slice ta s.ts.length tc) s.ts.length (s.ts.map Value.string)) (ho : RecOwn w N (.slice ra s.rs.length rc) s.rs vs) :
 Calls Tryz.prog 19 #[.agg #[.int .i64 s.wd, .slice ta s.ts.length tc, .slice ra s.rs.length rc], .int .i64 K] w fun e w' => e = .returned (.int .i64 (mkN K s.ts s.rs)) ∧ (∃ T P, MkT K s.ts.length T ∧ MkR (K + (s.ts.length : Int)) s.rs P ∧ w'.ownsRow N 9 1 (.slice ta s.ts.length tc) s.ts.length (T.map Value.string) ∧ RecOwn w' N (.slice ra s.rs.length rc) P vs) ∧ Chg (stF (.slice ta s.ts.length tc) (.slice ra s.rs.length rc) vs s.rs.length) w w' := by
 have hB0 : Below w.heap.size w (w.alloc (.cells #[.int .i64 s.wd, .slice ta s.ts.length tc, .slice ra s.rs.length rc] 45)) := (Below.refl _ _).alloc (Nat.le_refl _) _
 have B0 := hidI (blk_new w [.int .i64 s.wd, .slice ta s.ts.length tc, .slice ra s.rs.length rc] 45)
 have T0 := hidI (ofT_new w #[.int .i64 s.wd, .slice ta s.ts.length tc, .slice ra s.rs.length rc] 45)
 have s0 : (w.alloc (.cells #[.int .i64 s.wd, .slice ta s.ts.length tc, .slice ra s.rs.length rc] 45)).heap.size = w.heap.size + 1 := by simp
 have h39 := c57 K ta tc N s.ts _ h1 (by omega) hl (own_below ht hB0)
 have HR := hidI (ho.keep (W' := (w.alloc (.cells #[.int .i64 s.wd, .slice ta s.ts.length tc, .slice ra s.rs.length rc] 45))) (fun q t hT _ _ => hB0.block q (ofT_lt hT)))
 have HT := hidI (own_below ht hB0)
 have HT0 := hidI ht
 have c1 := B0.out 1 _ rfl
 clear ht ho
 go_enter Tryz.func19, Tryz.ntmps19
 go_wp2_with fail
 refine h39.mono ?_
 rintro e w1 ⟨rfl, ⟨T, hT, hrow⟩, hg1⟩
 have ne0 : some w.heap.size ≠ (Value.slice ta s.ts.length tc).ownBlock := fun e => by have := own_lt HT0.out e.symm; omega
 have c2 : w1.cell? ⟨w.heap.size, 2, none⟩ = some (.slice ra s.rs.length rc) := hg1.cell (B0.out 2 _ rfl) ne0
 have hR1 : RecOwn w1 N (.slice ra s.rs.length rc) s.rs vs := HR.out.keep (fun q t hTq ht _ => hg1.block q (ofT_lt hTq) (fun e => by
  have := ofT_one hTq (own_ofT HT.out e.symm)
  rcases ht with rfl | rfl <;> exact absurd this (by decide)))
 have C1 := hidI ((chg_below (F := stF (.slice ta s.ts.length tc) (.slice ra s.rs.length rc) vs s.rs.length) hB0).trans (chg_grown hg1 (fun k e => .inl e)))
 have HROW := hidI hrow
 have HTM := hidI hT
 have HR1 := hidI hR1
 have h40 := c58 (K + (s.ts.length : Int)) ra rc N s.rs.length s.rs vs w1 rfl (by omega) (by omega) hl2 hR1
 clear h39 hrow hg1 hT hR1 c1
 go_wp2_with fail
 refine h40.mono ?_
 rintro e w2 ⟨rfl, ⟨P, hP, hR2⟩, hC2⟩
 have HR2 := hidI hR2
 have HP := hidI hP
 have C2 := hidI (C1.out.trans (hC2.mono (fun k hk => .inr hk)))
 have HW2 : Hid (w2.ownsRow N 9 1 (.slice ta s.ts.length tc) s.ts.length (T.map Value.string)) := own_keep' HROW.out (fun q hq => hC2.block q (own_lt HROW.out hq) (fun hf => by
  rcases hf with e | ⟨i, hi, e⟩
  · exact absurd (ofT_one (own_ofT HROW.out hq) (own_ofT HR1.out.row e)) (by decide)
  · obtain ⟨a3, cx3, e3, h3⟩ := HR1.out.gl i hi
    rw [e3] at e
    exact absurd (ofT_one (own_ofT HROW.out hq) (own_ofT h3 e)) (by decide)))
 clear h40 hR2 hP hC2
 go_wp2
 go_ret
 exact ⟨rfl, ⟨T, P, HTM.out, HP.out, HW2.out, HR2.out⟩, C2.out⟩
end Go.Proofs.YtboojefodbjbcaaGreatDoor
