import Derived.Test.YtkhlekmicpmpkaaGreatDoorMC
namespace Go.Proofs.YtkhlekmicpmpkaaGreatDoor
open Go.RowKit Go.Maps
set_option maxRecDepth 100000
set_option linter.unusedVariables false
theorem step_app_n {P : Program} {ops : Array Oper} {o : Oper} {a : Act} {w : World} {K : Act → World → Prop} {Q : Exit → Act → World → Prop} {E : Prop}
 (hg : o.guard = none) (s x : Operand) (t : TypeId) (hop : o.op = Op.call { callee := Callee.builtin Builtin.append, args := #[s, x], argTypes := #[t, t] })
 (base : Nat) (e : TypeId) (i : TypeInfo) (z : Value) (size bytes : Nat) (h1 : P.underlying t = some (.slice e)) (h2 : P.info? e = some i) (h3 : i.zero = some z) (h4 : i.size = size) (h5 : i.bytes = bytes) (h6 : z.cells.size = size) (h7 : 0 < size)
 (v : Value) (n : Nat) (xs : List Value) (hs : a.eval s = v) (hown : w.ownsRow base e size v n xs)
 (ad : Addr) (m c : Nat) (news : List Value) (hx : a.eval x = .slice (some ad) m c) (hn : news.length = m * size) (hc : ∀ j u, news[j]? = some u → w.cell? (ad.add j) = some u) (h1c : ∀ u ∈ news, u.oneCell' = true)
 (b1 : n + m ≤ maxLen) (b2 : (n + m) * bytes ≤ 140737488355328) (hb : base ≤ w.heap.size)
 (hK : ∀ v' w', w'.ownsRow base e size v' (n + m) (xs ++ news) → w.grownBy w' v.ownBlock → (v ≠ .slice none 0 0 → v' ≠ .slice none 0 0) → K (a.put o.dst v') w') :
 if Region.wanted o (yielded ops a.tmps) = true then Oper.wp P o a w K Q else E := by
 have hw : Region.wanted o (yielded ops a.tmps) = true := by simp [Region.wanted, hg]
 rw [if_pos hw]
 obtain ⟨v', w', hrun, r1, r2, r3, r4⟩ := run_append_own_at (P := P) w base t o.type e i z size bytes h1 h2 h3 h4 h5 h6 h7 v n xs hown ad m c news hn hc h1c b1 b2 hb
 unfold Oper.wp
 simp [execOp, hop, resolve, invoke, builtin, hs, hx, hrun, Result.andThen]
 exact hK v' w' r1 r2 (fun h k => h (r3.1 k).1)
theorem row_some {W : World} {base e size n : Nat} {v : Value} {xs : List Value} (h : W.ownsRow base e size v n xs) (hn : v ≠ .slice none 0 0) : ∃ g c, v = .slice (some ⟨g, 0, none⟩) n c := by
 rcases h.2 with ⟨hv, _⟩ | ⟨g, cap, cur, hv, _⟩
 · exact absurd hv hn
 · exact ⟨g, cap, hv⟩
theorem ofT_fill {B : Nat} {t : TypeId} (vs : List Value) : ∀ {u : World} (j : Nat), OfT u B t → OfT (fill u B j vs) B t := by
 induction vs with
 | nil => intro u j h; exact h
 | cons v r ih => intro u j h; exact ih (j + 1) (ofT_set h j v)
theorem st_overT {u : World} {B N : Nat} {t : TypeId} {old vs : List Value} {P : World → Prop} (hl : old.length = vs.length) (hB : BlkAt u B old) (hO : OpnAt u B) (hT : OfT u B t) (hN : N ≤ B) (h : ∀ u', Below N u u' → BlkAt u' B vs → OpnAt u' B → OfT u' B t → u.heap.size ≤ u'.heap.size → (∀ k, k < u.heap.size → k ≠ B → u'.heap[k]? = u.heap[k]?) → P u') : P (fill u B 0 vs) :=
 h _ (below_fill hN _ _ (Below.refl _ _)) (BlkAt.fill0 hB hl) (OpnAt.fill _ _ hO) (ofT_fill _ _ hT) (by rw [size_fill]; exact Nat.le_refl _) (fun k _ hne => heap_fill k hne _ _)
def RecsAtS (w : World) (a : Option Addr) (is : List R3) : Prop := is = [] ∨ ∃ b off, a = some ⟨b, off, none⟩ ∧ b < w.heap.size ∧ ∀ i, i < is.length → ∃ ad ci, w.cell? ⟨b, off + i * 3, none⟩ = some (.string (is.getD i r3z).key) ∧ w.cell? ⟨b, off + i * 3 + 1, none⟩ = some (.slice (some ad) (is.getD i r3z).gs.length ci) ∧ w.cell? ⟨b, off + i * 3 + 2, none⟩ = some (.string (is.getD i r3z).out) ∧ GlsAt w (some ad) (is.getD i r3z).gs
theorem strs_src {w u : World} {tb : Nat} {ts : List ByteArray} (h : StrsAt w (some ⟨tb, 0, none⟩) ts) (hu : Below w.heap.size w u) : ∀ j v, (ts.map Value.string)[j]? = some v → u.cell? ((⟨tb, 0, none⟩ : Addr).add j) = some v := by
 intro j v hj
 rw [adr_add, Nat.zero_add]
 obtain ⟨b, off, hc⟩ := strs_some h
 rcases hc with rfl | ⟨ha, hlt, hcell⟩
 · simp at hj
 · simp only [Option.some.injEq, Addr.mk.injEq, and_true] at ha
   obtain ⟨rfl, rfl⟩ := ha
   have hl : j < ts.length := by have := (List.getElem?_eq_some_iff.1 hj).1; simpa using this
   have := hcell j hl
   rw [Nat.zero_add] at this
   rw [(hu.cell (p := ⟨tb, j, none⟩) hlt), this]
   rw [List.getElem?_map, List.getElem?_eq_getElem hl] at hj
   simp only [Option.map_some, Option.some.injEq] at hj
   rw [← hj]
   simp only [List.getD, List.getElem?_eq_getElem hl, Option.getD_some]
theorem gls_src {w u : World} {ad : Addr} {gs : List G3} (hat : GlsAt w (some ad) gs) (hu : Below w.heap.size w u) : ∀ j v, (gC gs)[j]? = some v → u.cell? (ad.add j) = some v := by
 rcases hat with rfl | ⟨b, off, h, hlt, hc⟩
 · intro j v hj; simp [gC] at hj
 · cases h
   exact gC_src (fun i hi => ⟨(hu.cell (p := ⟨b, off + i * 3, none⟩) hlt).trans (hc i hi).1, (hu.cell (p := ⟨b, off + i * 3 + 1, none⟩) hlt).trans (hc i hi).2.1, (hu.cell (p := ⟨b, off + i * 3 + 2, none⟩) hlt).trans (hc i hi).2.2⟩)
theorem rec_push {V1 T : World} {N : Nat} {v v6 : Value} {rs : List R3} {vs : List Value} {y : R3} {a5 : Option Addr} {c5 : Nat} (ho : RecOwn V1 N v rs vs) (h5 : T.ownsRow N 92 3 (.slice a5 y.gs.length c5) y.gs.length (gC y.gs)) (hrow : T.ownsRow N 67 3 v6 (rs.length + 1) (rC rs vs ++ [.string y.key, .slice a5 y.gs.length c5, .string y.out]))
 (hk : ∀ q, OfT V1 q 92 → T.heap[q]? = V1.heap[q]?) (hn : ∀ q, (Value.slice a5 y.gs.length c5).ownBlock = some q → V1.heap.size ≤ q) : RecOwn T N v6 (rs ++ [y]) (vs ++ [.slice a5 y.gs.length c5]) := by
 have hvl : ∀ i, i < rs.length → (vs ++ [Value.slice a5 y.gs.length c5]).getD i undef = vs.getD i undef := fun i hi => by simp only [List.getD, List.getElem?_append_left (show i < vs.length by rw [ho.len]; exact hi)]
 have hvn : (vs ++ [Value.slice a5 y.gs.length c5]).getD rs.length undef = (.slice a5 y.gs.length c5) := by simp [List.getD, show rs.length = vs.length by rw [ho.len]]
 have hrl2 : ∀ i, i < rs.length → (rs ++ [y]).getD i r3z = rs.getD i r3z := fun i hi => by simp only [List.getD, List.getElem?_append_left hi]
 have hrn : (rs ++ [y]).getD rs.length r3z = y := by simp [List.getD]
 have hold : ∀ i, i < rs.length → ∀ q, (vs.getD i undef).ownBlock = some q → q < V1.heap.size := fun i hi q hq => by
  obtain ⟨a3, c3, e, h3⟩ := ho.gl i hi
  rw [e] at hq
  exact own_lt h3 hq
 refine ⟨by simp [ho.len], ?_, fun i hi => ?_, fun i j hi hj hij => ?_⟩
 · rw [rC_snoc _ _ _ _ ho.len, List.length_append]
   exact hrow
 · rw [List.length_append, List.length_singleton] at hi
   rcases Nat.lt_or_ge i rs.length with hlt | hge
   · rw [hvl i hlt, hrl2 i hlt]
     obtain ⟨a3, c3, e, h3⟩ := ho.gl i hlt
     exact ⟨a3, c3, e, own_keep' h3 (fun q hq => hk q (own_ofT h3 hq))⟩
   · obtain rfl : i = rs.length := by omega
     rw [hvn, hrn]
     exact ⟨a5, c5, rfl, h5⟩
 · rw [List.length_append, List.length_singleton] at hi hj
   rcases Nat.lt_or_ge i rs.length with hli | hgi
   · rw [hvl i hli]
     rcases Nat.lt_or_ge j rs.length with hlj | hgj
     · rw [hvl j hlj]
       exact ho.apart i j hli hlj hij
     · obtain rfl : j = rs.length := by omega
       rw [hvn]
       cases hq : (vs.getD i undef).ownBlock with
       | none => exact .inl rfl
       | some q =>
        refine .inr (fun e => ?_)
        have := hold i hli q hq
        have := hn q e.symm
        omega
   · obtain rfl : i = rs.length := by omega
     rw [hvn]
     have hlj : j < rs.length := by omega
     rw [hvl j hlj]
     cases hq : (Value.slice a5 y.gs.length c5).ownBlock with
     | none => exact .inl rfl
     | some q =>
      refine .inr (fun e => ?_)
      have := hold j hlj q e.symm
      have := hn q hq
      omega
theorem RecOwn.keep {W W' : World} {base : Nat} {v : Value} {rs : List R3} {vs : List Value} (h : RecOwn W base v rs vs) (hk : ∀ q t, OfT W q t → t = 67 ∨ t = 92 → base ≤ q → W'.heap[q]? = W.heap[q]?) : RecOwn W' base v rs vs :=
 ⟨h.len, own_keep' h.row (fun q hq => hk q 67 (own_ofT h.row hq) (.inl rfl) (own_blk h.row hq)), fun i hi => by
  obtain ⟨a, c, e, h3⟩ := h.gl i hi
  exact ⟨a, c, e, own_keep' h3 (fun q hq => hk q 92 (own_ofT h3 hq) (.inr rfl) (own_blk h3 hq))⟩, h.apart⟩
theorem ofT_lt {W : World} {q : Nat} {t : TypeId} (h : OfT W q t) : q < W.heap.size := by
 obtain ⟨cur, fr, e⟩ := h
 exact (Array.getElem?_eq_some_iff.1 e).1
structure LC (V : World) (N A : Nat) (W0 : Int) (ts : List ByteArray) (g c : Nat) (P : List R3) (a2 : Option Addr) (c2 : Nat) (vs : List Value) (W : World) : Prop where
 bl : BlkAt W A [.int .i64 W0, .slice (some ⟨g, 0, none⟩) ts.length c, .slice a2 P.length c2]
 rc : RecOwn W N (.slice a2 P.length c2) P vs
 tr : W.ownsRow N 9 1 (.slice (some ⟨g, 0, none⟩) ts.length c) ts.length (ts.map Value.string)
 op : OpnAt W A
 t1 : OfT W A 37
 na : N ≤ A
 bw : Below N V W
theorem LC.below {V : World} {N A : Nat} {W0 : Int} {ts : List ByteArray} {g c : Nat} {P : List R3} {a2 : Option Addr} {c2 : Nat} {vs : List Value} {W W' : World} (h : LC V N A W0 ts g c P a2 c2 vs W) (hb : Below W.heap.size W W') : LC V N A W0 ts g c P a2 c2 vs W' :=
 ⟨h.bl.below hb (ofT_lt h.t1), h.rc.keep (fun q t hT _ _ => hb.block q (ofT_lt hT)), own_below h.tr hb, h.op.below hb (ofT_lt h.t1), h.t1.below hb (ofT_lt h.t1), h.na, h.bw.trans (hb.mono (by have := ofT_lt h.t1; have := h.na; omega))⟩
theorem lc_step {V V1 V2 V5 : World} {N A Bx : Nat} {W0 : Int} {ts : List ByteArray} {g c : Nat} {P : List R3} {a2 a5 a6 : Option Addr} {c2 c5 c6 : Nat} {vs : List Value} {y : R3} (h : LC V N A W0 ts g c P a2 c2 vs V1) (hBx : N ≤ Bx) (tX : OfT V1 Bx 67) (hfx : (Value.slice a2 P.length c2).ownBlock ≠ some Bx) (h12 : Below V1.heap.size V1 V2) (h5 : V2.ownsRow V1.heap.size 92 3 (.slice a5 y.gs.length c5) y.gs.length (gC y.gs))
 (hown : V5.ownsRow N 67 3 (.slice a6 (P.length + 1) c6) (P.length + 1) (rC P vs ++ [.string y.key, (.slice a5 y.gs.length c5), .string y.out])) (hgrow : ((V2.setCell ⟨Bx, 1, none⟩ (.slice a5 y.gs.length c5)).alloc (.cells #[.string y.key, .slice a5 y.gs.length c5, .string y.out] 67)).grownBy V5 (Value.slice a2 P.length c2).ownBlock) :
 LC V N A W0 ts g c (P ++ [y]) a6 c6 (vs ++ [.slice a5 y.gs.length c5]) (V5.setCell ⟨A, 2, none⟩ (.slice a6 (P.length + 1) c6)) := by
 have hA := ofT_lt h.t1
 have hNA := h.na
 have s12 := h12.size
 have s4 : ((V2.setCell ⟨Bx, 1, none⟩ (.slice a5 y.gs.length c5)).alloc (.cells #[.string y.key, .slice a5 y.gs.length c5, .string y.out] 67)).heap.size = V2.heap.size + 1 := by simp
 have s5 := hgrow.size
 have sT : (V5.setCell ⟨A, 2, none⟩ (.slice a6 (P.length + 1) c6)).heap.size = V5.heap.size := by simp
 have ABx : A ≠ Bx := fun e => by have := ofT_one h.t1 (e ▸ tX); exact absurd this (by decide)
 have hrl : ∀ k, (Value.slice a2 P.length c2).ownBlock = some k → k < V1.heap.size := fun k e => own_lt h.rc.row e
 have neS : some A ≠ (Value.slice a2 P.length c2).ownBlock := fun e => absurd (ofT_one h.t1 (own_ofT h.rc.row e.symm)) (by decide)
 have H2 : ∀ k, k < V2.heap.size → k ≠ Bx → k ≠ A → (Value.slice a2 P.length c2).ownBlock ≠ some k → (V5.setCell ⟨A, 2, none⟩ (.slice a6 (P.length + 1) c6)).heap[k]? = V2.heap[k]? := fun k hk hkB hkS hkr => by
  rw [Below.heap_setCell _ _ _ _ (by exact hkS)]
  refine (hgrow.block k (by omega) (fun e => hkr e.symm)).trans ?_
  refine (Below.heap_alloc _ _ k (by simpa using hk)).trans ?_
  exact Below.heap_setCell _ _ _ _ (by exact hkB)
 have H1 : ∀ k, k < V1.heap.size → k ≠ Bx → k ≠ A → (Value.slice a2 P.length c2).ownBlock ≠ some k → (V5.setCell ⟨A, 2, none⟩ (.slice a6 (P.length + 1) c6)).heap[k]? = V1.heap[k]? := fun k hk hkB hkS hkr => (H2 k (by omega) hkB hkS hkr).trans (h12.block k hk)
 have HT : ∀ k t, OfT V1 k t → t ≠ 67 → t ≠ 37 → (V5.setCell ⟨A, 2, none⟩ (.slice a6 (P.length + 1) c6)).heap[k]? = V1.heap[k]? := fun k t hT ht ht2 => by
  refine H1 k (ofT_lt hT) (fun e => ht ?_) (fun e => ht2 ?_) (fun e => ht ?_)
  · subst e; exact ofT_one hT tX
  · subst e; exact ofT_one hT h.t1
  · exact ofT_one hT (own_ofT h.rc.row e)
 have b4 : BlkAt ((V2.setCell ⟨Bx, 1, none⟩ (.slice a5 y.gs.length c5)).alloc (.cells #[.string y.key, .slice a5 y.gs.length c5, .string y.out] 67)) A [.int .i64 W0, .slice (some ⟨g, 0, none⟩) ts.length c, .slice a2 P.length c2] := ((h.bl.below h12 (by omega)).other _ _ (by show Bx ≠ A; omega)).below (N := V2.heap.size) ((Below.refl _ _).alloc (by simp) _) (by omega)
 have o4 : OpnAt ((V2.setCell ⟨Bx, 1, none⟩ (.slice a5 y.gs.length c5)).alloc (.cells #[.string y.key, .slice a5 y.gs.length c5, .string y.out] 67)) A := ((h.op.below h12 (by omega)).set _ _).below (N := V2.heap.size) ((Below.refl _ _).alloc (by simp) _) (by omega)
 have b5 := blk_kept b4 hgrow (by omega) neS
 have o5 := opn_kept o4 hgrow (by omega) neS
 have b6 : BlkAt (V5.setCell ⟨A, 2, none⟩ (.slice a6 (P.length + 1) c6)) A [.int .i64 W0, .slice (some ⟨g, 0, none⟩) ts.length c, .slice a6 (P.length + 1) c6] := b5.set 2 _ (by simp)
 have t4 : OfT V5 A 37 := by
  obtain ⟨cur, fr, e⟩ := h.t1
  refine ⟨cur, fr, (hgrow.block _ (by omega) neS).trans ((Below.heap_alloc _ _ _ (by simp; omega)).trans ?_)⟩
  rw [Below.heap_setCell _ _ _ _ (by show A ≠ Bx; omega)]
  exact (h12.block _ (by omega)).trans e
 have bT : Below N V (V5.setCell ⟨A, 2, none⟩ (.slice a6 (P.length + 1) c6)) := ⟨(hgrow.os.trans (h12.os)).trans h.bw.os, (hgrow.tape.trans (h12.tape)).trans h.bw.tape, (hgrow.output.trans (h12.output)).trans h.bw.output, by have := h.bw.size; omega, fun k hk => (H1 k (by omega) (by omega) (by omega) (fun e => by have := own_blk h.rc.row e; omega)).trans (h.bw.block k hk)⟩
 have h5T : (V5.setCell ⟨A, 2, none⟩ (.slice a6 (P.length + 1) c6)).ownsRow N 92 3 (.slice a5 y.gs.length c5) y.gs.length (gC y.gs) := own_low (own_keep' h5 (fun q hq => H2 q (own_lt h5 hq) (fun e => by have := own_blk h5 hq; have := ofT_lt tX; omega) (fun e => by have := own_blk h5 hq; omega) (fun e => by have := hrl q e; have := own_blk h5 hq; omega))) (by omega)
 have e1 : (P ++ [y]).length = P.length + 1 := by simp
 refine ⟨by rw [e1]; exact b6, ?_, own_keep' h.tr (fun q hq => HT q 9 (own_ofT h.tr hq) (by decide) (by decide)), o5.set _ _, ofT_set t4 2 _, hNA, bT⟩
 rw [e1]
 refine rec_push h.rc h5T (own_keep' hown (fun q hq => Below.heap_setCell _ _ _ _ (fun e => ?_))) (fun q hq => HT q 92 hq (by decide) (by decide)) (fun q hq => own_blk h5 hq)
 have e' : q = A := e
 exact absurd (ofT_one (own_ofT hown hq) (e' ▸ t4)) (by decide)
set_option maxHeartbeats 8000000 in
theorem c24 (s : St) (tb : Nat) (ra : Option Addr) (tc rc : Nat) (w : World) (hs : s.le 1048576) (hst : StrsAt w (some ⟨tb, 0, none⟩) s.ts) (hre : RecsAtS w ra s.rs) :
 Calls Tryz.prog 24 #[.agg #[.int .i64 s.wd, .slice (some ⟨tb, 0, none⟩) s.ts.length tc, .slice ra s.rs.length rc]] w fun e w' => (∃ g c ra' rc', e = .returned (.agg #[.int .i64 s.wd, .slice (some ⟨g, 0, none⟩) s.ts.length c, .slice ra' s.rs.length rc']) ∧ StOwn w' w.heap.size s.ts s.rs (.slice (some ⟨g, 0, none⟩) s.ts.length c) (.slice ra' s.rs.length rc')) ∧ Below w.heap.size w w' := by
 obtain ⟨i0, hi, hz0, hz1, hz2⟩ := info_parts' info9
 obtain ⟨i1, hi1, jz0, jz1, jz2⟩ := info_parts' info67'
 obtain ⟨i2, hi2, gz0, gz1, gz2⟩ := info_parts' info92'
 have hB0 : Below w.heap.size w ((w.alloc (.cells #[.int .i64 s.wd, .slice (some ⟨tb, 0, none⟩) s.ts.length tc, .slice ra s.rs.length rc] 37)).alloc (.cells #[.int .i64 0, .slice none 0 0, .slice none 0 0] 37)) := ((Below.refl _ _).alloc (Nat.le_refl _) _).alloc (by simp) _
 have sV : ((w.alloc (.cells #[.int .i64 s.wd, .slice (some ⟨tb, 0, none⟩) s.ts.length tc, .slice ra s.rs.length rc] 37)).alloc (.cells #[.int .i64 0, .slice none 0 0, .slice none 0 0] 37)).heap.size = w.heap.size + 2 := by simp
 have htl := hs.1.1
 have HM1 : Hid (0 + s.ts.length ≤ maxLen) := by show _ ≤ _; unfold maxLen; omega
 have HM2 : Hid ((0 + s.ts.length) * 16 ≤ 140737488355328) := by show _ ≤ _; omega
 have HSR : Hid (∀ u, Below (w.heap.size + 2) ((w.alloc (.cells #[.int .i64 s.wd, .slice (some ⟨tb, 0, none⟩) s.ts.length tc, .slice ra s.rs.length rc] 37)).alloc (.cells #[.int .i64 0, .slice none 0 0, .slice none 0 0] 37)) u → ∀ j v, (s.ts.map Value.string)[j]? = some v → u.cell? ((⟨tb, 0, none⟩ : Addr).add j) = some v) := fun u hu => strs_src hst (hB0.trans (hu.mono (by omega)))
 have BS : Hid (BlkAt ((w.alloc (.cells #[.int .i64 s.wd, .slice (some ⟨tb, 0, none⟩) s.ts.length tc, .slice ra s.rs.length rc] 37)).alloc (.cells #[.int .i64 0, .slice none 0 0, .slice none 0 0] 37)) w.heap.size [.int .i64 s.wd, .slice (some ⟨tb, 0, none⟩) s.ts.length tc, .slice ra s.rs.length rc]) := hidI ((blk_new w [.int .i64 s.wd, .slice (some ⟨tb, 0, none⟩) s.ts.length tc, .slice ra s.rs.length rc] 37).below (N := w.heap.size + 1) ((Below.refl _ _).alloc (by simp) _) (by omega))
 have BZ : Hid (BlkAt ((w.alloc (.cells #[.int .i64 s.wd, .slice (some ⟨tb, 0, none⟩) s.ts.length tc, .slice ra s.rs.length rc] 37)).alloc (.cells #[.int .i64 0, .slice none 0 0, .slice none 0 0] 37)) (w.heap.size + 1) [.int .i64 0, .slice none 0 0, .slice none 0 0]) := by have h := blk_new (w.alloc (.cells #[.int .i64 s.wd, .slice (some ⟨tb, 0, none⟩) s.ts.length tc, .slice ra s.rs.length rc] 37)) [.int .i64 0, .slice none 0 0, .slice none 0 0] 37; rw [show (w.alloc (.cells #[.int .i64 s.wd, .slice (some ⟨tb, 0, none⟩) s.ts.length tc, .slice ra s.rs.length rc] 37)).heap.size = w.heap.size + 1 by simp] at h; exact h
 have OZ : Hid (OpnAt ((w.alloc (.cells #[.int .i64 s.wd, .slice (some ⟨tb, 0, none⟩) s.ts.length tc, .slice ra s.rs.length rc] 37)).alloc (.cells #[.int .i64 0, .slice none 0 0, .slice none 0 0] 37)) (w.heap.size + 1)) := by have h := opn_new (w.alloc (.cells #[.int .i64 s.wd, .slice (some ⟨tb, 0, none⟩) s.ts.length tc, .slice ra s.rs.length rc] 37)) #[.int .i64 0, .slice none 0 0, .slice none 0 0] 37; rw [show (w.alloc (.cells #[.int .i64 s.wd, .slice (some ⟨tb, 0, none⟩) s.ts.length tc, .slice ra s.rs.length rc] 37)).heap.size = w.heap.size + 1 by simp] at h; exact h
 have y0 := BS.out 0 _ rfl
 have y1 := BS.out 1 _ rfl
 have HRE := hidI hre
 clear hst hre
 go_enter Tryz.func24, Tryz.ntmps24
 go_wp2_with fail
 rename_i K0 hK0
 generalize ((w.alloc (.cells #[.int .i64 s.wd, .slice (some ⟨tb, 0, none⟩) s.ts.length tc, .slice ra s.rs.length rc] 37)).alloc (.cells #[.int .i64 0, .slice none 0 0, .slice none 0 0] 37)) = V at *
 have hV : Below (w.heap.size + 2) V V := Below.refl _ _
 have TAIL : ∀ (q g c A : Nat) (E : World), Below (w.heap.size + 2) V E → w.heap.size + 2 ≤ A → A < E.heap.size → BlkAt E A [.int .i64 s.wd, .slice (some ⟨g, 0, none⟩) s.ts.length c, .slice none 0 0] → OpnAt E A → OfT E A 37 → Hid (E.ownsRow (w.heap.size + 2) 9 1 (.slice (some ⟨g, 0, none⟩) s.ts.length c) s.ts.length (s.ts.map Value.string)) → K0 { tmps := #[.agg #[.int .i64 s.wd, .slice (some ⟨tb, 0, none⟩) s.ts.length tc, .slice ra s.rs.length rc], .pointer (some ⟨w.heap.size, 0, none⟩), .pointer (some ⟨w.heap.size + 1, 0, none⟩), .pointer (some ⟨A, 0, none⟩), undef, undef, .pointer (some ⟨w.heap.size, 0, none⟩), .int .i64 s.wd, .slice (some ⟨q, 0, none⟩) 0 0, .pointer (some ⟨w.heap.size, 1, none⟩), .slice (some ⟨tb, 0, none⟩) s.ts.length tc, .slice (some ⟨g, 0, none⟩) s.ts.length c, .agg #[.int .i64 s.wd, .slice (some ⟨g, 0, none⟩) s.ts.length c, .slice none 0 0], undef, undef, undef, undef, undef, undef, undef, undef, undef, undef, undef, undef, undef, undef, undef, undef, undef, undef, undef, undef, undef, undef, undef, undef], defers := [] } E := by
  intro q g c A E bE hA hAl bA oA tA ROW
  have LC0 : LC V (w.heap.size + 2) A s.wd s.ts g c [] none 0 [] E := ⟨bA, ⟨rfl, World.ownsRow_nil _ _ _ _, fun i hi => absurd hi (Nat.not_lt_zero _), fun i j hi => absurd hi (Nat.not_lt_zero _)⟩, ROW.out, oA, tA, hA, bE⟩
  clear bA oA tA ROW y0 y1 HSR
  apply hK0
  clear hK0
  go_wp2_with fail
  go_loopw [4] (fun i wr => ∃ P : List R3, Hid (P <+: s.rs) ∧ P.length ≤ s.rs.length ∧ i = .int .i64 P.length ∧ Hid (∃ a2 c2 vs, LC V (w.heap.size + 2) A s.wd s.ts g c P a2 c2 vs wr)) (fun i _ => s.rs.length - (Go.RowKit.intOf i).toNat)
  case atStart => exact ⟨[], List.nil_prefix, Nat.zero_le _, rfl, none, 0, [], LC0⟩
  case round =>
   obtain ⟨P, hP, hPl, rfl, hl⟩ := hrel
   obtain ⟨a2, c2, vs, hL⟩ := hl.out
   have HL := hidI hL
   have hbw : Below (w.heap.size + 2) V wr := hL.bw
   have z2 := ((BS.out.below hbw (by omega)) 2 _ rfl)
   clear hl hL
   by_cases hlt : P.length < s.rs.length
   · rcases HRE.out with he | ⟨rb, ro, hra, hrb, hcell⟩
     · rw [he] at hlt; exact absurd hlt (Nat.not_lt_zero _)
     subst hra
     obtain ⟨ad, ci, g0, g1, g2, g3⟩ := hcell P.length hlt
     have hsl := hs.2.1
     have hyl := (hs.2.2 P.length).2.1
     have hw : Below w.heap.size w wr := hB0.trans (hbw.mono (by omega))
     have hpy : P ++ [s.rs.getD P.length r3z] <+: s.rs := by
      obtain ⟨t, ht⟩ := hP.out
      cases t with
      | nil => rw [← ht] at hlt; simp at hlt
      | cons x r =>
       refine ⟨r, ?_⟩
       have e : s.rs.getD P.length r3z = x := by rw [← ht]; simp [List.getD]
       rw [e, ← ht]
       simp
     generalize s.rs.getD P.length r3z = y at *
     have HPY := hidI hpy
     have e0 := (hw.cell (p := ⟨rb, ro + P.length * 3, none⟩) hrb).trans g0
     have e1 := (hw.cell (p := ⟨rb, ro + P.length * 3 + 1, none⟩) hrb).trans g1
     have e2 := (hw.cell (p := ⟨rb, ro + P.length * 3 + 2, none⟩) hrb).trans g2
     have G3 := hidI (gls_below g3 hw)
     have hAw := hidI (ofT_lt HL.out.t1)
     have hwz : w.heap.size ≤ wr.heap.size := hw.size
     have hwr2 : w.heap.size + 2 ≤ wr.heap.size := by have := hbw.size; omega
     have LC1 := hidI (HL.out.below (W' := (wr.alloc (.cells #[.string y.key, .slice (some ad) y.gs.length ci, .string y.out] 67))) ((Below.refl _ _).alloc (Nat.le_refl _) _))
     have BX1 := hidI (blk_new wr [.string y.key, .slice (some ad) y.gs.length ci, .string y.out] 67)
     have OX1 := hidI (opn_new wr #[.string y.key, .slice (some ad) y.gs.length ci, .string y.out] 67)
     have TX1 := hidI (ofT_new wr #[.string y.key, .slice (some ad) y.gs.length ci, .string y.out] 67)
     have SX1 : Hid ((wr.alloc (.cells #[.string y.key, .slice (some ad) y.gs.length ci, .string y.out] 67)).heap.size = wr.heap.size + 1) := hidI (by simp)
     have RW : Hid (((wr.alloc (.cells #[.string y.key, .slice (some ad) y.gs.length ci, .string y.out] 67)).alloc (.cells #[] 92)).ownsRow (wr.heap.size + 1) 92 3 (.slice (some ⟨wr.heap.size + 1, 0, none⟩) 0 0) 0 []) := by
      have h := World.ownsRow_made (base := wr.heap.size + 1) (e := 92) (size := 3) (wr.alloc (.cells #[.string y.key, .slice (some ad) y.gs.length ci, .string y.out] 67)) #[] 0 (by rw [SX1.out]; exact Nat.le_refl _) (Nat.zero_le _) rfl
      rw [SX1.out] at h
      exact h
     have SRC : Hid (∀ j v, (gC y.gs)[j]? = some v → ((wr.alloc (.cells #[.string y.key, .slice (some ad) y.gs.length ci, .string y.out] 67)).alloc (.cells #[] 92)).cell? (ad.add j) = some v) := gls_src G3.out (((Below.refl _ _).alloc (Nat.le_refl _) _).alloc (by simp) _)
     clear g0 g1 g2 g3 hcell hpy hbw hw
     have hmark : True := trivial
     go_wp2_with (refine wpList_app rfl (.tmp 25) (.tmp 27) 65 rfl (wr.heap.size + 1) 92 i2 (.agg #[.bool false, .string ⟨#[]⟩, .string ⟨#[]⟩]) 3 40 Tryz.underlying65 hi2 gz0 gz1 gz2 rfl (by decide) _ _ _ rfl RW.out ad y.gs.length ci (gC y.gs) rfl (gC_len y.gs) SRC.out (gC_one y.gs) (by unfold maxLen; omega) (by omega) (by simp) ?_; revert hmark)
     intro v5 w5 hown hgrow
     obtain ⟨a5, c5, rfl⟩ := row_form hown
     have hb5 : Below (wr.alloc (.cells #[.string y.key, .slice (some ad) y.gs.length ci, .string y.out] 67)).heap.size (wr.alloc (.cells #[.string y.key, .slice (some ad) y.gs.length ci, .string y.out] 67)) w5 := by
      rw [SX1.out]
      exact ((Below.refl _ _).alloc (by simp) _).trans (gb_below hgrow (fun j e => own_blk RW.out e) (by simp))
     have s5 := hb5.size
     rw [SX1.out] at s5
     have H5 : Hid (w5.ownsRow (wr.alloc (.cells #[.string y.key, .slice (some ad) y.gs.length ci, .string y.out] 67)).heap.size 92 3 (.slice a5 y.gs.length c5) y.gs.length (gC y.gs)) := by rw [SX1.out]; exact hown
     have HB5 := hidI hb5
     have x5 := BX1.out.below hb5 (by rw [SX1.out]; omega)
     have o5 := OX1.out.below hb5 (by rw [SX1.out]; omega)
     have n1 := x5 1 _ rfl
     have nf := o5 1
     have x6 : BlkAt (w5.setCell ⟨wr.heap.size, 1, none⟩ (.slice a5 y.gs.length c5)) wr.heap.size [.string y.key, .slice a5 y.gs.length c5, .string y.out] := x5.set 1 _ (by simp)
     have k0 := x6 0 _ rfl
     have k1 := x6 1 _ rfl
     have k2 := x6 2 _ rfl
     have hAlt := hAw.out
     have bS5 := (LC1.out.bl.below hb5 (ofT_lt LC1.out.t1)).other ⟨wr.heap.size, 1, none⟩ (.slice a5 y.gs.length c5) (by show wr.heap.size ≠ A; omega)
     have q2 := bS5 2 _ rfl
     have FX : Hid ((Value.slice a2 P.length c2).ownBlock ≠ some wr.heap.size) := fun e => by have := own_lt HL.out.rc.row e; omega
     have HO : Hid (((w5.setCell ⟨wr.heap.size, 1, none⟩ (.slice a5 y.gs.length c5)).alloc (.cells #[.string y.key, .slice a5 y.gs.length c5, .string y.out] 67)).ownsRow (w.heap.size + 2) 67 3 (.slice a2 P.length c2) P.length (rC P vs)) := own_keep' LC1.out.rc.row (fun q hq => ((Below.heap_alloc _ _ q (by have := own_lt HL.out.rc.row hq; simp; omega)).trans (Below.heap_setCell _ _ _ _ (fun e => FX.out (by have e' : q = wr.heap.size := e; rw [← e']; exact hq)))).trans (hb5.block q (own_lt LC1.out.rc.row hq)))
     have HR : Hid (∀ j u, ([.string y.key, .slice a5 y.gs.length c5, .string y.out] : List Value)[j]? = some u → ((w5.setCell ⟨wr.heap.size, 1, none⟩ (.slice a5 y.gs.length c5)).alloc (.cells #[.string y.key, .slice a5 y.gs.length c5, .string y.out] 67)).cell? ((⟨w5.heap.size, 0, none⟩ : Addr).add j) = some u) := fun j u hj => by
      rw [adr_add, Nat.zero_add]
      have h := blk_new (w5.setCell ⟨wr.heap.size, 1, none⟩ (.slice a5 y.gs.length c5)) [.string y.key, .slice a5 y.gs.length c5, .string y.out] 67 j u hj
      rw [show (w5.setCell ⟨wr.heap.size, 1, none⟩ (.slice a5 y.gs.length c5)).heap.size = w5.heap.size by simp] at h
      exact h
     have S4 : Hid (((w5.setCell ⟨wr.heap.size, 1, none⟩ (.slice a5 y.gs.length c5)).alloc (.cells #[.string y.key, .slice a5 y.gs.length c5, .string y.out] 67)).heap.size = w5.heap.size + 1) := hidI (by simp)
     have B4 := hidI (bS5.below (N := w5.heap.size) ((Below.refl _ _).alloc (by simp) (.cells #[.string y.key, .slice a5 y.gs.length c5, .string y.out] 67)) (by omega))
     have O4 := hidI (((LC1.out.op.below hb5 (ofT_lt LC1.out.t1)).set ⟨wr.heap.size, 1, none⟩ (.slice a5 y.gs.length c5)).below (N := w5.heap.size) ((Below.refl _ _).alloc (by simp) (.cells #[.string y.key, .slice a5 y.gs.length c5, .string y.out] 67)) (by omega))
     clear hown hgrow hb5 x5 o5 x6 bS5
     have hmark : True := trivial
     go_wp2_with (refine wpList_app rfl (.tmp 31) (.tmp 33) 35 rfl (w.heap.size + 2) 67 i1 (.agg #[.string ⟨#[]⟩, .slice none 0 0, .string ⟨#[]⟩]) 3 56 Tryz.underlying35 hi1 jz0 jz1 jz2 rfl (by decide) _ _ _ rfl HO.out ⟨w5.heap.size, 0, none⟩ 1 1 [.string y.key, .slice a5 y.gs.length c5, .string y.out] rfl rfl HR.out (by simp [Value.oneCell']) (by unfold maxLen; omega) (by omega) (by rw [S4.out]; omega) ?_; revert hmark)
     intro v6 w6 hown hgrow
     obtain ⟨a6, c6, rfl⟩ := row_form hown
     have neS : some A ≠ (Value.slice a2 P.length c2).ownBlock := fun e => absurd (ofT_one HL.out.t1 (own_ofT HL.out.rc.row e.symm)) (by decide)
     have m1 := (blk_kept B4.out hgrow (by rw [S4.out]; omega) neS) 2 _ rfl
     have m2 := (opn_kept O4.out hgrow (by rw [S4.out]; omega) neS) 2
     have HST := hidI (lc_step LC1.out (Bx := wr.heap.size) (y := y) (by omega) TX1.out FX.out HB5.out H5.out hown hgrow)
     have hpn : (P ++ [y]).length = P.length + 1 := by simp
     have HPN := hidI hpn
     clear hown hgrow hpn
     go_wp2
     go_roundw
     case rel => exact ⟨P ++ [y], HPY, by rw [HPN.out]; omega, by rw [HPN.out]; go_num, a6, c6, _, HST.out⟩
     case measure => simp [Go.RowKit.intOf]; omega
   · have hPe : P = s.rs := List.IsPrefix.eq_of_length hP.out (by omega)
     subst hPe
     have k0 := HL.out.bl 0 _ rfl
     have k1 := HL.out.bl 1 _ rfl
     have k2 := HL.out.bl 2 _ rfl
     have r0 := (BZ.out.below hbw (by omega)) 0 _ rfl
     have r1 := (BZ.out.below hbw (by omega)) 1 _ rfl
     have r2 := (BZ.out.below hbw (by omega)) 2 _ rfl
     have f0 := (OZ.out.below hbw (by omega)) 0
     have f1 := (OZ.out.below hbw (by omega)) 1
     have f2 := (OZ.out.below hbw (by omega)) 2
     have hwz := hidI hbw.size
     have ZE : Hid (BlkAt (((wr.setCell ⟨w.heap.size + 1, 0, none⟩ (.int .i64 s.wd)).setCell ⟨w.heap.size + 1, 1, none⟩ (.slice (some ⟨g, 0, none⟩) s.ts.length c)).setCell ⟨w.heap.size + 1, 2, none⟩ (.slice a2 s.rs.length c2)) (w.heap.size + 1) [.int .i64 s.wd, .slice (some ⟨g, 0, none⟩) s.ts.length c, .slice a2 s.rs.length c2]) := hidI ((((BZ.out.below hbw (by omega)).set 0 _ (by simp)).set 1 _ (by simp)).set 2 _ (by simp))
     have HE : Hid (∀ k, k ≠ w.heap.size + 1 → (((wr.setCell ⟨w.heap.size + 1, 0, none⟩ (.int .i64 s.wd)).setCell ⟨w.heap.size + 1, 1, none⟩ (.slice (some ⟨g, 0, none⟩) s.ts.length c)).setCell ⟨w.heap.size + 1, 2, none⟩ (.slice a2 s.rs.length c2)).heap[k]? = wr.heap[k]?) := hidI (fun k hk => (Below.heap_setCell _ _ _ _ (by exact hk)).trans ((Below.heap_setCell _ _ _ _ (by exact hk)).trans (Below.heap_setCell _ _ _ _ (by exact hk))))
     have BE : Hid (Below w.heap.size w (((wr.setCell ⟨w.heap.size + 1, 0, none⟩ (.int .i64 s.wd)).setCell ⟨w.heap.size + 1, 1, none⟩ (.slice (some ⟨g, 0, none⟩) s.ts.length c)).setCell ⟨w.heap.size + 1, 2, none⟩ (.slice a2 s.rs.length c2))) := hidI ((((hB0.trans (hbw.mono (by omega))).setCell (p := ⟨w.heap.size + 1, 0, none⟩) (Nat.le_succ _) _).setCell (p := ⟨w.heap.size + 1, 1, none⟩) (Nat.le_succ _) _).setCell (p := ⟨w.heap.size + 1, 2, none⟩) (Nat.le_succ _) _)
     go_wp2
     refine bodyPost_ret (v := .agg ([.int .i64 s.wd, .slice (some ⟨g, 0, none⟩) s.ts.length c, .slice a2 s.rs.length c2] : List Value).toArray) (results_blk (P := Tryz.prog) (ty := 37) rfl _ (((wr.setCell ⟨w.heap.size + 1, 0, none⟩ (.int .i64 s.wd)).setCell ⟨w.heap.size + 1, 1, none⟩ (.slice (some ⟨g, 0, none⟩) s.ts.length c)).setCell ⟨w.heap.size + 1, 2, none⟩ (.slice a2 s.rs.length c2)) (w.heap.size + 1) [.int .i64 s.wd, .slice (some ⟨g, 0, none⟩) s.ts.length c, .slice a2 s.rs.length c2] _ rfl ZE.out Tryz.underlying37 rfl (by kernel_rfl)) rfl ⟨⟨g, c, a2, c2, rfl, ?_⟩, BE.out⟩
     refine ⟨own_low (own_keep' HL.out.tr (fun q hq => HE.out q (fun e => by have := own_blk HL.out.tr hq; omega))) (by omega), vs, ?_⟩
     have h := HL.out.rc.keep (W' := (((wr.setCell ⟨w.heap.size + 1, 0, none⟩ (.int .i64 s.wd)).setCell ⟨w.heap.size + 1, 1, none⟩ (.slice (some ⟨g, 0, none⟩) s.ts.length c)).setCell ⟨w.heap.size + 1, 2, none⟩ (.slice a2 s.rs.length c2))) (fun q t _ _ hq => HE.out q (fun e => by omega))
     exact ⟨h.len, own_low h.row (by omega), fun i hi => by
      obtain ⟨a3, c3, e, h3⟩ := h.gl i hi
      exact ⟨a3, c3, e, own_low h3 (by omega)⟩, h.apart⟩
 refine wp_region_held_drew (S := (fun u => u.cell? ⟨w.heap.size, 0, none⟩ = some (.int .i64 s.wd) ∧ u.cell? ⟨w.heap.size, 1, none⟩ = some (.slice (some ⟨tb, 0, none⟩) s.ts.length tc))) (by kernel_rfl) ?_ (fun hHeld => ?_)
 · exact ⟨y0, y1⟩
 refine wpAnyH_take (i := 0) (oi := ⟨some 6, .fieldAddr 37 (.tmp 1) 0, 0, "l5_store.go:115", #[], none⟩) (v := ?_) rfl (by kernel_rfl) (by kernel_rfl) (by kernel_rfl) (fun _ _ _ h => h) (Or.inl ⟨by rfl, ?_⟩) (by assumption) ?_
 rotate_left
 · intro wq hSw
   (try dsimp only at hSw)
   go_simp
   try with_reducible rfl
 try simp only [Act.put, qA, qB, qC]
 refine wpAnyH_take (i := 1) (oi := ⟨some 7, .load 3 (.tmp 6), 3, "l5_store.go:115", #[⟨0, .data⟩], none⟩) (v := ?_) rfl (by kernel_rfl) (by kernel_rfl) (by kernel_rfl) (fun _ _ _ h => h) (Or.inl ⟨by rfl, ?_⟩) (by assumption) ?_
 rotate_left
 · intro wq hSw
   (try dsimp only at hSw)
   go_simp
   try with_reducible rfl
 try simp only [Act.put, qA, qB, qC]
 refine wpAnyH_take (i := 3) (oi := ⟨some 9, .fieldAddr 37 (.tmp 1) 1, 0, "l5_store.go:115", #[], none⟩) (v := ?_) rfl (by kernel_rfl) (by kernel_rfl) (by kernel_rfl) (fun _ _ _ h => h) (Or.inl ⟨by rfl, ?_⟩) (by assumption) ?_
 rotate_left
 · intro wq hSw
   (try dsimp only at hSw)
   go_simp
   try with_reducible rfl
 try simp only [Act.put, qA, qB, qC]
 refine wpAnyH_take (i := 4) (oi := ⟨some 10, .load 22 (.tmp 9), 22, "l5_store.go:115", #[⟨3, .data⟩], none⟩) (v := ?_) rfl (by kernel_rfl) (by kernel_rfl) (by kernel_rfl) (fun _ _ _ h => h) (Or.inl ⟨by rfl, ?_⟩) (by assumption) ?_
 rotate_left
 · intro wq hSw
   (try dsimp only at hSw)
   go_simp
   try with_reducible rfl
 try simp only [Act.put, qA, qB, qC]
 refine wpAnyH_ready (rs := [2, 7]) (by kernel_rfl) (by simp) ?_
 refine AllReadyH.cons (o := ⟨some 8, .buildSlice 22 0 #[], 22, "l5_store.go:115", #[], none⟩) rfl (fun K hK => ?_) (AllReadyH.cons (o := ⟨some 3, .alloc 37, 0, "l5_store.go:115", #[], none⟩) rfl (fun K hK => ?_) AllReadyH.nil)
 · go_simp
   have bx1 : Below (w.heap.size + 2) V ((V.alloc (.cells #[] 9)).drew) := (hV.alloc (by omega) _).drew
   have sx1 : ((V.alloc (.cells #[] 9)).drew).heap.size = V.heap.size + 1 := by simp
   have RW : Hid (((V.alloc (.cells #[] 9)).drew).ownsRow (w.heap.size + 2) 9 1 (.slice (some ⟨(w.heap.size + 2), 0, none⟩) 0 0) 0 []) := by have h := World.ownsRow_made (base := w.heap.size + 2) (e := 9) (size := 1) V #[] 0 (by omega) (Nat.zero_le _) rfl; rw [sV] at h; exact h
   have c0x1 := (bx1.cell (p := ⟨w.heap.size, 0, none⟩) (by show w.heap.size < w.heap.size + 2; omega)).trans y0
   have c1x1 := (bx1.cell (p := ⟨w.heap.size, 1, none⟩) (by show w.heap.size < w.heap.size + 2; omega)).trans y1
   clear hHeld
   refine hK.out _ _ ⟨c0x1, c1x1⟩ (fun hHeld => ?_)
   clear hK K
   try simp only [Act.put, qA, qB, qC]
   generalize ((V.alloc (.cells #[] 9)).drew) = x1 at *
   have hx1 := bx1
   refine wpAnyH_ready (rs := [5, 7]) (by kernel_rfl) (by simp) ?_
   refine AllReadyH.cons (o := ⟨some 11, .call ⟨.builtin .append, #[.tmp 8, .tmp 10], #[22, 22]⟩, 22, "l5_store.go:115", #[⟨2, .data⟩, ⟨4, .data⟩], none⟩) rfl (fun K hK => ?_) (AllReadyH.cons (o := ⟨some 3, .alloc 37, 0, "l5_store.go:115", #[], none⟩) rfl (fun K hK => ?_) AllReadyH.nil)
   · refine step_app_n rfl (.tmp 8) (.tmp 10) 22 rfl (w.heap.size + 2) 9 i0 (.string ⟨#[]⟩) 1 16 Tryz.underlying22 hi hz0 hz1 hz2 rfl (by decide) (.slice (some ⟨(w.heap.size + 2), 0, none⟩) 0 0) 0 [] rfl RW.out ⟨tb, 0, none⟩ s.ts.length tc (s.ts.map Value.string) rfl (by simp) (HSR.out x1 bx1) (fun q hq => by obtain ⟨t, _, rfl⟩ := List.mem_map.1 hq; rfl) HM1.out HM2.out (by omega) ?_
     intro v4 x2 ho4 hg4 hn4
     have hn5 := hn4 (by simp)
     rw [Nat.zero_add, List.nil_append] at ho4
     obtain ⟨g4, c4, hv4⟩ := row_some ho4 hn5
     subst hv4
     have bx2 : Below (w.heap.size + 2) V x2 := bx1.trans (gb_below hg4 (fun j e => own_blk RW.out e) (by omega))
     have sx2 := hg4.size
     have RV := hidI ho4
     have c0x2 := (bx2.cell (p := ⟨w.heap.size, 0, none⟩) (by show w.heap.size < w.heap.size + 2; omega)).trans y0
     have c1x2 := (bx2.cell (p := ⟨w.heap.size, 1, none⟩) (by show w.heap.size < w.heap.size + 2; omega)).trans y1
     clear hHeld
     refine hK.out _ _ ⟨c0x2, c1x2⟩ (fun hHeld => ?_)
     clear hK K
     try simp only [Act.put, qA, qB, qC]
     have hx2 := bx2
     refine wpAnyH_take (i := 6) (oi := ⟨some 12, .build 37 #[(0, .tmp 7), (1, .tmp 11)], 37, "l5_store.go:115", #[⟨1, .data⟩, ⟨5, .data⟩], none⟩) (v := ?_) rfl (by kernel_rfl) (by kernel_rfl) (by kernel_rfl) (fun _ _ _ h => h) (Or.inl ⟨by rfl, ?_⟩) (by assumption) ?_
     rotate_left
     · intro wq hSw
       (try dsimp only at hSw)
       go_simp
       try with_reducible rfl
     try simp only [Act.put, qA, qB, qC]
     refine wpAnyH_ready (rs := [7]) (by kernel_rfl) (by simp) ?_
     refine AllReadyH.cons (o := ⟨some 3, .alloc 37, 0, "l5_store.go:115", #[], none⟩) rfl (fun K hK => ?_) AllReadyH.nil
     go_simp
     have bx3 : Below (w.heap.size + 2) V (x2.alloc (.cells #[.int .i64 0, .slice none 0 0, .slice none 0 0] 37)) := (hx2.alloc (by omega) _)
     have sx3 : (x2.alloc (.cells #[.int .i64 0, .slice none 0 0, .slice none 0 0] 37)).heap.size = x2.heap.size + 1 := by simp
     have ZA : Hid (BlkAt (x2.alloc (.cells #[.int .i64 0, .slice none 0 0, .slice none 0 0] 37)) x2.heap.size [.int .i64 0, .slice none 0 0, .slice none 0 0]) := by have h := blk_new x2 [.int .i64 0, .slice none 0 0, .slice none 0 0] 37; exact h
     have FA : Hid (OpnAt (x2.alloc (.cells #[.int .i64 0, .slice none 0 0, .slice none 0 0] 37)) x2.heap.size) := by have h := opn_new x2 #[.int .i64 0, .slice none 0 0, .slice none 0 0] 37; exact h
     have TA : Hid (OfT (x2.alloc (.cells #[.int .i64 0, .slice none 0 0, .slice none 0 0] 37)) x2.heap.size 37) := by have h := ofT_new x2 #[.int .i64 0, .slice none 0 0, .slice none 0 0] 37; exact h
     have c0x3 := (bx3.cell (p := ⟨w.heap.size, 0, none⟩) (by show w.heap.size < w.heap.size + 2; omega)).trans y0
     have c1x3 := (bx3.cell (p := ⟨w.heap.size, 1, none⟩) (by show w.heap.size < w.heap.size + 2; omega)).trans y1
     clear hHeld
     refine hK.out _ _ ⟨c0x3, c1x3⟩ (fun hHeld => ?_)
     clear hK K
     try simp only [Act.put, qA, qB, qC]
     have RV3 := hidI (own_below RV.out ((Below.refl _ _).alloc (Nat.le_refl _) (.cells #[.int .i64 0, .slice none 0 0, .slice none 0 0] 37)))
     generalize (x2.alloc (.cells #[.int .i64 0, .slice none 0 0, .slice none 0 0] 37)) = x3 at *
     have hx3 := bx3
     have ZB := ZA
     have FB := FA
     have TB := TA
     clear RV
     have RV := RV3
     refine wpAnyH_ready (rs := [8]) (by kernel_rfl) (by simp) ?_
     refine AllReadyH.cons (o := ⟨none, .store 37 (.tmp 3) (.tmp 12), 0, "l5_store.go:115", #[⟨7, .data⟩, ⟨6, .data⟩, ⟨5, .chain⟩, ⟨0, .phase⟩, ⟨1, .phase⟩, ⟨2, .phase⟩, ⟨3, .phase⟩, ⟨4, .phase⟩, ⟨5, .phase⟩, ⟨6, .phase⟩, ⟨7, .phase⟩], none⟩) rfl (fun K hK => ?_) AllReadyH.nil
     refine step_store_blk rfl 37 (.tmp 3) (.tmp 12) rfl x2.heap.size 0 rfl [.int .i64 s.wd, .slice (some ⟨g4, 0, none⟩) s.ts.length c4, .slice none 0 0] rfl (blk_some ZB.out rfl) FB.out (by simp [Value.oneCell']) (by kernel_rfl) rfl ?_
     clear hHeld
     refine st_overT (old := [.int .i64 0, .slice none 0 0, .slice none 0 0]) (N := w.heap.size + 2) rfl ZB.out FB.out TB.out (by omega) ?_
     intro E hbE ZE FE TE hsE hoE
     have bE := bx3.trans hbE
     have c0E := (bE.cell (p := ⟨w.heap.size, 0, none⟩) (by show w.heap.size < w.heap.size + 2; omega)).trans y0
     have c1E := (bE.cell (p := ⟨w.heap.size, 1, none⟩) (by show w.heap.size < w.heap.size + 2; omega)).trans y1
     have RE : Hid (E.ownsRow (w.heap.size + 2) 9 1 (.slice (some ⟨g4, 0, none⟩) s.ts.length c4) s.ts.length (s.ts.map Value.string)) := own_keep' RV.out (fun q hq => hoE q (own_lt RV.out hq) (fun e => by subst e; exact absurd (ofT_one (own_ofT RV.out hq) TB.out) (by decide)))
     refine hK.out _ _ ⟨c0E, c1E⟩ (fun hHeld => ?_)
     clear hK K hHeld
     try simp only [Act.put, qA, qB, qC]
     refine wpAnyH_done (by kernel_rfl) ?_ _
     exact TAIL (w.heap.size + 2) g4 c4 x2.heap.size E bE (by omega) (by omega) ZE FE TE RE
   · go_simp
     have bx2 : Below (w.heap.size + 2) V (x1.alloc (.cells #[.int .i64 0, .slice none 0 0, .slice none 0 0] 37)) := (hx1.alloc (by omega) _)
     have sx2 : (x1.alloc (.cells #[.int .i64 0, .slice none 0 0, .slice none 0 0] 37)).heap.size = x1.heap.size + 1 := by simp
     have ZA : Hid (BlkAt (x1.alloc (.cells #[.int .i64 0, .slice none 0 0, .slice none 0 0] 37)) (w.heap.size + 2 + 1) [.int .i64 0, .slice none 0 0, .slice none 0 0]) := by have h := blk_new x1 [.int .i64 0, .slice none 0 0, .slice none 0 0] 37; rw [show x1.heap.size = w.heap.size + 2 + 1 by omega] at h; exact h
     have FA : Hid (OpnAt (x1.alloc (.cells #[.int .i64 0, .slice none 0 0, .slice none 0 0] 37)) (w.heap.size + 2 + 1)) := by have h := opn_new x1 #[.int .i64 0, .slice none 0 0, .slice none 0 0] 37; rw [show x1.heap.size = w.heap.size + 2 + 1 by omega] at h; exact h
     have TA : Hid (OfT (x1.alloc (.cells #[.int .i64 0, .slice none 0 0, .slice none 0 0] 37)) (w.heap.size + 2 + 1) 37) := by have h := ofT_new x1 #[.int .i64 0, .slice none 0 0, .slice none 0 0] 37; rw [show x1.heap.size = w.heap.size + 2 + 1 by omega] at h; exact h
     have c0x2 := (bx2.cell (p := ⟨w.heap.size, 0, none⟩) (by show w.heap.size < w.heap.size + 2; omega)).trans y0
     have c1x2 := (bx2.cell (p := ⟨w.heap.size, 1, none⟩) (by show w.heap.size < w.heap.size + 2; omega)).trans y1
     clear hHeld
     refine hK.out _ _ ⟨c0x2, c1x2⟩ (fun hHeld => ?_)
     clear hK K
     try simp only [Act.put, qA, qB, qC]
     have RW2 := hidI (own_below RW.out ((Below.refl _ _).alloc (Nat.le_refl _) (.cells #[.int .i64 0, .slice none 0 0, .slice none 0 0] 37)))
     generalize (x1.alloc (.cells #[.int .i64 0, .slice none 0 0, .slice none 0 0] 37)) = x2 at *
     have hx2 := bx2
     clear RW
     have RW := RW2
     refine wpAnyH_ready (rs := [5]) (by kernel_rfl) (by simp) ?_
     refine AllReadyH.cons (o := ⟨some 11, .call ⟨.builtin .append, #[.tmp 8, .tmp 10], #[22, 22]⟩, 22, "l5_store.go:115", #[⟨2, .data⟩, ⟨4, .data⟩], none⟩) rfl (fun K hK => ?_) AllReadyH.nil
     refine step_app_n rfl (.tmp 8) (.tmp 10) 22 rfl (w.heap.size + 2) 9 i0 (.string ⟨#[]⟩) 1 16 Tryz.underlying22 hi hz0 hz1 hz2 rfl (by decide) (.slice (some ⟨(w.heap.size + 2), 0, none⟩) 0 0) 0 [] rfl RW.out ⟨tb, 0, none⟩ s.ts.length tc (s.ts.map Value.string) rfl (by simp) (HSR.out x2 bx2) (fun q hq => by obtain ⟨t, _, rfl⟩ := List.mem_map.1 hq; rfl) HM1.out HM2.out (by omega) ?_
     intro v4 x3 ho4 hg4 hn4
     have hn5 := hn4 (by simp)
     rw [Nat.zero_add, List.nil_append] at ho4
     obtain ⟨g4, c4, hv4⟩ := row_some ho4 hn5
     subst hv4
     have bx3 : Below (w.heap.size + 2) V x3 := bx2.trans (gb_below hg4 (fun j e => own_blk RW.out e) (by omega))
     have sx3 := hg4.size
     have RV := hidI ho4
     have c0x3 := (bx3.cell (p := ⟨w.heap.size, 0, none⟩) (by show w.heap.size < w.heap.size + 2; omega)).trans y0
     have c1x3 := (bx3.cell (p := ⟨w.heap.size, 1, none⟩) (by show w.heap.size < w.heap.size + 2; omega)).trans y1
     have hnA : some (w.heap.size + 2 + 1) ≠ (Value.slice (some ⟨(w.heap.size + 2), 0, none⟩) 0 0).ownBlock := fun e => by have e2 : (w.heap.size + 2 + 1) = (w.heap.size + 2) := Option.some.inj e; omega
     have ZB := hidI (blk_kept ZA.out hg4 (by omega) hnA)
     have FB := hidI (opn_kept FA.out hg4 (by omega) hnA)
     have TB := hidI (TA.out.kept hg4 hnA)
     clear hHeld
     refine hK.out _ _ ⟨c0x3, c1x3⟩ (fun hHeld => ?_)
     clear hK K
     try simp only [Act.put, qA, qB, qC]
     refine wpAnyH_take (i := 6) (oi := ⟨some 12, .build 37 #[(0, .tmp 7), (1, .tmp 11)], 37, "l5_store.go:115", #[⟨1, .data⟩, ⟨5, .data⟩], none⟩) (v := ?_) rfl (by kernel_rfl) (by kernel_rfl) (by kernel_rfl) (fun _ _ _ h => h) (Or.inl ⟨by rfl, ?_⟩) (by assumption) ?_
     rotate_left
     · intro wq hSw
       (try dsimp only at hSw)
       go_simp
       try with_reducible rfl
     try simp only [Act.put, qA, qB, qC]
     refine wpAnyH_ready (rs := [8]) (by kernel_rfl) (by simp) ?_
     refine AllReadyH.cons (o := ⟨none, .store 37 (.tmp 3) (.tmp 12), 0, "l5_store.go:115", #[⟨7, .data⟩, ⟨6, .data⟩, ⟨5, .chain⟩, ⟨0, .phase⟩, ⟨1, .phase⟩, ⟨2, .phase⟩, ⟨3, .phase⟩, ⟨4, .phase⟩, ⟨5, .phase⟩, ⟨6, .phase⟩, ⟨7, .phase⟩], none⟩) rfl (fun K hK => ?_) AllReadyH.nil
     refine step_store_blk rfl 37 (.tmp 3) (.tmp 12) rfl (w.heap.size + 2 + 1) 0 rfl [.int .i64 s.wd, .slice (some ⟨g4, 0, none⟩) s.ts.length c4, .slice none 0 0] rfl (blk_some ZB.out rfl) FB.out (by simp [Value.oneCell']) (by kernel_rfl) rfl ?_
     clear hHeld
     refine st_overT (old := [.int .i64 0, .slice none 0 0, .slice none 0 0]) (N := w.heap.size + 2) rfl ZB.out FB.out TB.out (by omega) ?_
     intro E hbE ZE FE TE hsE hoE
     have bE := bx3.trans hbE
     have c0E := (bE.cell (p := ⟨w.heap.size, 0, none⟩) (by show w.heap.size < w.heap.size + 2; omega)).trans y0
     have c1E := (bE.cell (p := ⟨w.heap.size, 1, none⟩) (by show w.heap.size < w.heap.size + 2; omega)).trans y1
     have RE : Hid (E.ownsRow (w.heap.size + 2) 9 1 (.slice (some ⟨g4, 0, none⟩) s.ts.length c4) s.ts.length (s.ts.map Value.string)) := own_keep' RV.out (fun q hq => hoE q (own_lt RV.out hq) (fun e => by subst e; exact absurd (ofT_one (own_ofT RV.out hq) TB.out) (by decide)))
     refine hK.out _ _ ⟨c0E, c1E⟩ (fun hHeld => ?_)
     clear hK K hHeld
     try simp only [Act.put, qA, qB, qC]
     refine wpAnyH_done (by kernel_rfl) ?_ _
     exact TAIL (w.heap.size + 2) g4 c4 (w.heap.size + 2 + 1) E bE (by omega) (by omega) ZE FE TE RE
 · go_simp
   have bx1 : Below (w.heap.size + 2) V ((V.alloc (.cells #[.int .i64 0, .slice none 0 0, .slice none 0 0] 37)).drew) := (hV.alloc (by omega) _).drew
   have sx1 : ((V.alloc (.cells #[.int .i64 0, .slice none 0 0, .slice none 0 0] 37)).drew).heap.size = V.heap.size + 1 := by simp
   have ZA : Hid (BlkAt ((V.alloc (.cells #[.int .i64 0, .slice none 0 0, .slice none 0 0] 37)).drew) (w.heap.size + 2) [.int .i64 0, .slice none 0 0, .slice none 0 0]) := by have h := blk_new V [.int .i64 0, .slice none 0 0, .slice none 0 0] 37; rw [sV] at h; exact h
   have FA : Hid (OpnAt ((V.alloc (.cells #[.int .i64 0, .slice none 0 0, .slice none 0 0] 37)).drew) (w.heap.size + 2)) := by have h := opn_new V #[.int .i64 0, .slice none 0 0, .slice none 0 0] 37; rw [sV] at h; exact h
   have TA : Hid (OfT ((V.alloc (.cells #[.int .i64 0, .slice none 0 0, .slice none 0 0] 37)).drew) (w.heap.size + 2) 37) := by have h := ofT_new V #[.int .i64 0, .slice none 0 0, .slice none 0 0] 37; rw [sV] at h; exact h
   have c0x1 := (bx1.cell (p := ⟨w.heap.size, 0, none⟩) (by show w.heap.size < w.heap.size + 2; omega)).trans y0
   have c1x1 := (bx1.cell (p := ⟨w.heap.size, 1, none⟩) (by show w.heap.size < w.heap.size + 2; omega)).trans y1
   clear hHeld
   refine hK.out _ _ ⟨c0x1, c1x1⟩ (fun hHeld => ?_)
   clear hK K
   try simp only [Act.put, qA, qB, qC]
   generalize ((V.alloc (.cells #[.int .i64 0, .slice none 0 0, .slice none 0 0] 37)).drew) = x1 at *
   have hx1 := bx1
   refine wpAnyH_ready (rs := [2]) (by kernel_rfl) (by simp) ?_
   refine AllReadyH.cons (o := ⟨some 8, .buildSlice 22 0 #[], 22, "l5_store.go:115", #[], none⟩) rfl (fun K hK => ?_) AllReadyH.nil
   go_simp
   have bx2 : Below (w.heap.size + 2) V (x1.alloc (.cells #[] 9)) := (hx1.alloc (by omega) _)
   have sx2 : (x1.alloc (.cells #[] 9)).heap.size = x1.heap.size + 1 := by simp
   have RW : Hid ((x1.alloc (.cells #[] 9)).ownsRow (w.heap.size + 2) 9 1 (.slice (some ⟨(w.heap.size + 2 + 1), 0, none⟩) 0 0) 0 []) := by have h := World.ownsRow_made (base := w.heap.size + 2) (e := 9) (size := 1) x1 #[] 0 (by omega) (Nat.zero_le _) rfl; rw [show x1.heap.size = w.heap.size + 2 + 1 by omega] at h; exact h
   have c0x2 := (bx2.cell (p := ⟨w.heap.size, 0, none⟩) (by show w.heap.size < w.heap.size + 2; omega)).trans y0
   have c1x2 := (bx2.cell (p := ⟨w.heap.size, 1, none⟩) (by show w.heap.size < w.heap.size + 2; omega)).trans y1
   clear hHeld
   refine hK.out _ _ ⟨c0x2, c1x2⟩ (fun hHeld => ?_)
   clear hK K
   try simp only [Act.put, qA, qB, qC]
   have ZA2 := hidI (ZA.out.below (N := x1.heap.size) ((Below.refl _ _).alloc (Nat.le_refl _) (.cells #[] 9)) (by omega))
   have FA2 := hidI (FA.out.below (N := x1.heap.size) ((Below.refl _ _).alloc (Nat.le_refl _) (.cells #[] 9)) (by omega))
   have TA2 := hidI (TA.out.below (N := x1.heap.size) ((Below.refl _ _).alloc (Nat.le_refl _) (.cells #[] 9)) (by omega))
   generalize (x1.alloc (.cells #[] 9)) = x2 at *
   have hx2 := bx2
   refine wpAnyH_ready (rs := [5]) (by kernel_rfl) (by simp) ?_
   refine AllReadyH.cons (o := ⟨some 11, .call ⟨.builtin .append, #[.tmp 8, .tmp 10], #[22, 22]⟩, 22, "l5_store.go:115", #[⟨2, .data⟩, ⟨4, .data⟩], none⟩) rfl (fun K hK => ?_) AllReadyH.nil
   refine step_app_n rfl (.tmp 8) (.tmp 10) 22 rfl (w.heap.size + 2) 9 i0 (.string ⟨#[]⟩) 1 16 Tryz.underlying22 hi hz0 hz1 hz2 rfl (by decide) (.slice (some ⟨(w.heap.size + 2 + 1), 0, none⟩) 0 0) 0 [] rfl RW.out ⟨tb, 0, none⟩ s.ts.length tc (s.ts.map Value.string) rfl (by simp) (HSR.out x2 bx2) (fun q hq => by obtain ⟨t, _, rfl⟩ := List.mem_map.1 hq; rfl) HM1.out HM2.out (by omega) ?_
   intro v4 x3 ho4 hg4 hn4
   have hn5 := hn4 (by simp)
   rw [Nat.zero_add, List.nil_append] at ho4
   obtain ⟨g4, c4, hv4⟩ := row_some ho4 hn5
   subst hv4
   have bx3 : Below (w.heap.size + 2) V x3 := bx2.trans (gb_below hg4 (fun j e => own_blk RW.out e) (by omega))
   have sx3 := hg4.size
   have RV := hidI ho4
   have c0x3 := (bx3.cell (p := ⟨w.heap.size, 0, none⟩) (by show w.heap.size < w.heap.size + 2; omega)).trans y0
   have c1x3 := (bx3.cell (p := ⟨w.heap.size, 1, none⟩) (by show w.heap.size < w.heap.size + 2; omega)).trans y1
   have hnA : some (w.heap.size + 2) ≠ (Value.slice (some ⟨(w.heap.size + 2 + 1), 0, none⟩) 0 0).ownBlock := fun e => by have e2 : (w.heap.size + 2) = (w.heap.size + 2 + 1) := Option.some.inj e; omega
   have ZB := hidI (blk_kept ZA2.out hg4 (by omega) hnA)
   have FB := hidI (opn_kept FA2.out hg4 (by omega) hnA)
   have TB := hidI (TA2.out.kept hg4 hnA)
   clear hHeld
   refine hK.out _ _ ⟨c0x3, c1x3⟩ (fun hHeld => ?_)
   clear hK K
   try simp only [Act.put, qA, qB, qC]
   refine wpAnyH_take (i := 6) (oi := ⟨some 12, .build 37 #[(0, .tmp 7), (1, .tmp 11)], 37, "l5_store.go:115", #[⟨1, .data⟩, ⟨5, .data⟩], none⟩) (v := ?_) rfl (by kernel_rfl) (by kernel_rfl) (by kernel_rfl) (fun _ _ _ h => h) (Or.inl ⟨by rfl, ?_⟩) (by assumption) ?_
   rotate_left
   · intro wq hSw
     (try dsimp only at hSw)
     go_simp
     try with_reducible rfl
   try simp only [Act.put, qA, qB, qC]
   refine wpAnyH_ready (rs := [8]) (by kernel_rfl) (by simp) ?_
   refine AllReadyH.cons (o := ⟨none, .store 37 (.tmp 3) (.tmp 12), 0, "l5_store.go:115", #[⟨7, .data⟩, ⟨6, .data⟩, ⟨5, .chain⟩, ⟨0, .phase⟩, ⟨1, .phase⟩, ⟨2, .phase⟩, ⟨3, .phase⟩, ⟨4, .phase⟩, ⟨5, .phase⟩, ⟨6, .phase⟩, ⟨7, .phase⟩], none⟩) rfl (fun K hK => ?_) AllReadyH.nil
   refine step_store_blk rfl 37 (.tmp 3) (.tmp 12) rfl (w.heap.size + 2) 0 rfl [.int .i64 s.wd, .slice (some ⟨g4, 0, none⟩) s.ts.length c4, .slice none 0 0] rfl (blk_some ZB.out rfl) FB.out (by simp [Value.oneCell']) (by kernel_rfl) rfl ?_
   clear hHeld
   refine st_overT (old := [.int .i64 0, .slice none 0 0, .slice none 0 0]) (N := w.heap.size + 2) rfl ZB.out FB.out TB.out (by omega) ?_
   intro E hbE ZE FE TE hsE hoE
   have bE := bx3.trans hbE
   have c0E := (bE.cell (p := ⟨w.heap.size, 0, none⟩) (by show w.heap.size < w.heap.size + 2; omega)).trans y0
   have c1E := (bE.cell (p := ⟨w.heap.size, 1, none⟩) (by show w.heap.size < w.heap.size + 2; omega)).trans y1
   have RE : Hid (E.ownsRow (w.heap.size + 2) 9 1 (.slice (some ⟨g4, 0, none⟩) s.ts.length c4) s.ts.length (s.ts.map Value.string)) := own_keep' RV.out (fun q hq => hoE q (own_lt RV.out hq) (fun e => by subst e; exact absurd (ofT_one (own_ofT RV.out hq) TB.out) (by decide)))
   refine hK.out _ _ ⟨c0E, c1E⟩ (fun hHeld => ?_)
   clear hK K hHeld
   try simp only [Act.put, qA, qB, qC]
   refine wpAnyH_done (by kernel_rfl) ?_ _
   exact TAIL (w.heap.size + 2 + 1) g4 c4 (w.heap.size + 2) E bE (by omega) (by omega) ZE FE TE RE
end Go.Proofs.YtkhlekmicpmpkaaGreatDoor
