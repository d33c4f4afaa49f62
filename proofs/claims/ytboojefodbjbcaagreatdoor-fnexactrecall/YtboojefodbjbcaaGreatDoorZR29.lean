import Derived.Test.YtboojefodbjbcaaGreatDoorZR28
import Derived.Maps.OwnIn
import Derived.Test.YtboojefodbjbcaaGreatDoorZR24
namespace Go.Proofs.YtboojefodbjbcaaGreatDoor
open Go.RowKit Go.Maps Go.Sort Go.Shelf
attribute [local go_sem] Oper.semAt_some
set_option maxRecDepth 100000
set_option linter.unusedVariables false
def gC (gs : List G3) : List Value := gs.flatMap fun g => [.bool g.nm, .string g.tl, .string g.ar]
theorem gC_len (gs : List G3) : (gC gs).length = gs.length * 3 := by
 induction gs with
 | nil => rfl
 | cons x r ih => simp only [gC, List.flatMap_cons, List.length_append] at ih ⊢; rw [ih]; simp; omega
theorem gC_at (gs : List G3) : ∀ k, k < gs.length → (gC gs)[k * 3]? = some (.bool (gs.getD k g3z).nm) ∧ (gC gs)[k * 3 + 1]? = some (.string (gs.getD k g3z).tl) ∧ (gC gs)[k * 3 + 2]? = some (.string (gs.getD k g3z).ar) := by
 induction gs with
 | nil => intro k hk; exact absurd hk (Nat.not_lt_zero _)
 | cons x r ih =>
  intro k hk
  cases k with
  | zero => exact ⟨rfl, rfl, rfl⟩
  | succ k =>
   have := ih k (by simpa using hk)
   have e1 : (k + 1) * 3 = k * 3 + 1 + 1 + 1 := by omega
   rw [e1]
   exact this
theorem gls_row {w : World} {base : Nat} {a : Option Addr} {c : Nat} {gs : List G3} (h : w.ownsRow base 127 3 (.slice a gs.length c) gs.length (gC gs)) : GlsAt w a gs := by
 have hrow := h
 rcases h.2 with ⟨hv, h0⟩ | ⟨g, cap, cur, hv, hg, hh, _⟩
 · exact .inl (List.length_eq_zero_iff.1 h0)
 · simp only [Value.slice.injEq] at hv
   obtain ⟨rfl, _, rfl⟩ := hv
   refine .inr ⟨g, 0, rfl, (Array.getElem?_eq_some_iff.1 hh).1, fun k hk => ?_⟩
   obtain ⟨a0, a1, a2⟩ := gC_at gs k hk
   refine ⟨?_, ?_, ?_⟩
   · rw [Nat.zero_add, hrow.cellAt (k * 3) (by omega)]; exact a0
   · rw [Nat.zero_add, hrow.cellAt (k * 3 + 1) (by omega)]; exact a1
   · rw [Nat.zero_add, hrow.cellAt (k * 3 + 2) (by omega)]; exact a2
end Go.Proofs.YtboojefodbjbcaaGreatDoor
namespace Go.Proofs.YtboojefodbjbcaaGreatDoor
open Go.RowKit Go.Maps Go.Sort Go.Shelf
attribute [local go_sem] Oper.semAt_some
set_option maxRecDepth 100000
set_option linter.unusedVariables false
theorem own_ofT {W : World} {base e size n : Nat} {v : Value} {xs : List Value} (h : W.ownsRow base e size v n xs) {k : Nat} (hk : v.ownBlock = some k) : OfT W k e := by
 rcases h.2 with ⟨hv, _⟩ | ⟨g, cap, cur, hv, hg, hh, _⟩
 · subst hv; simp [Value.ownBlock] at hk
 · subst hv
   simp [Value.ownBlock] at hk
   subst hk
   exact ⟨cur, (0, 0), hh⟩
theorem ofT_set {W : World} {b : Nat} {t : TypeId} (h : OfT W b t) (j : Nat) (v : Value) : OfT (W.setCell ⟨b, j, none⟩ v) b t := by
 obtain ⟨cur, fr, h⟩ := h
 have hb := (Array.getElem?_eq_some_iff.1 h)
 refine ⟨cur.setIfInBounds j v, fr, ?_⟩
 simp only [World.setCell]
 rw [Array.getElem?_modify]
 simp [h]
theorem own_keep' {u u' : World} {base e size n : Nat} {v : Value} {xs : List Value} (h : u.ownsRow base e size v n xs) (hk : ∀ q, v.ownBlock = some q → u'.heap[q]? = u.heap[q]?) : u'.ownsRow base e size v n xs := by
 refine ⟨h.1, h.2.imp id ?_⟩
 rintro ⟨g, cap, cur, h1, h2, h3, h4⟩
 exact ⟨g, cap, cur, h1, h2, (hk g (by rw [h1]; rfl)).trans h3, h4⟩
theorem blk_same {u u' : World} {b : Nat} {vs : List Value} (h : BlkAt u b vs) (e : u'.heap[b]? = u.heap[b]?) : BlkAt u' b vs := fun j v hj => by
 have := h j v hj
 simp only [World.cell?, e]
 simpa only [World.cell?] using this
theorem opn_same {u u' : World} {b : Nat} (h : OpnAt u b) (e : u'.heap[b]? = u.heap[b]?) : OpnAt u' b := fun j => by
 have := h j
 simp only [World.frozen?, e]
 simpa only [World.frozen?] using this
def rC (rs : List R3) (vs : List Value) : List Value := (List.range rs.length).flatMap fun i => [.string (rs.getD i r3z).key, vs.getD i undef, .string (rs.getD i r3z).out]
structure RecOwn (W : World) (base : Nat) (v : Value) (rs : List R3) (vs : List Value) : Prop where
 len : vs.length = rs.length
 row : W.ownsRow base 82 3 v rs.length (rC rs vs)
 gl : ∀ i, i < rs.length → ∃ a c, vs.getD i undef = .slice a (rs.getD i r3z).gs.length c ∧ W.ownsRow base 127 3 (.slice a (rs.getD i r3z).gs.length c) (rs.getD i r3z).gs.length (gC (rs.getD i r3z).gs)
 apart : ∀ i j, i < rs.length → j < rs.length → i ≠ j → (vs.getD i undef).ownBlock = none ∨ (vs.getD i undef).ownBlock ≠ (vs.getD j undef).ownBlock
theorem ofT_one {W : World} {b t t' : Nat} (h : OfT W b t) (h' : OfT W b t') : t = t' := by
 obtain ⟨cur, fr, h⟩ := h
 obtain ⟨cur', fr', h'⟩ := h'
 rw [h] at h'
 cases h'
 rfl
end Go.Proofs.YtboojefodbjbcaaGreatDoor
namespace Go.Proofs.YtboojefodbjbcaaGreatDoor
open Go.RowKit Go.Maps
set_option maxRecDepth 100000
set_option linter.unusedVariables false
structure Chg (F : Nat → Prop) (w w' : World) : Prop where
 os : w'.os = w.os
 tape : w'.tape = w.tape
 output : w'.output = w.output
 size : w.heap.size ≤ w'.heap.size
 block : ∀ k, k < w.heap.size → ¬ F k → w'.heap[k]? = w.heap[k]?
theorem Chg.refl (F : Nat → Prop) (w : World) : Chg F w w := ⟨rfl, rfl, rfl, Nat.le_refl _, fun _ _ _ => rfl⟩
theorem Chg.trans {F : Nat → Prop} {u v w : World} (h : Chg F u v) (h2 : Chg F v w) : Chg F u w := ⟨h2.os.trans h.os, h2.tape.trans h.tape, h2.output.trans h.output, Nat.le_trans h.size h2.size, fun k hk hn => (h2.block k (Nat.lt_of_lt_of_le hk h.size) hn).trans (h.block k hk hn)⟩
theorem Chg.mono {F G : Nat → Prop} {u v : World} (h : Chg F u v) (hg : ∀ k, F k → G k) : Chg G u v := ⟨h.os, h.tape, h.output, h.size, fun k hk hn => h.block k hk (fun hf => hn (hg k hf))⟩
theorem chg_below {F : Nat → Prop} {u v : World} (hb : Below u.heap.size u v) : Chg F u v := ⟨hb.os, hb.tape, hb.output, hb.size, fun k hk _ => hb.block k hk⟩
theorem chg_grown {F : Nat → Prop} {u v : World} {row : Option Nat} (hg : u.grownBy v row) (h : ∀ k, row = some k → F k) : Chg F u v := ⟨hg.os, hg.tape, hg.output, hg.size, fun k hk hn => hg.block k hk (fun e => hn (h k e.symm))⟩
theorem Chg.below {F : Nat → Prop} {u v : World} {N : Nat} (h : Chg F u v) (hN : N ≤ u.heap.size) (hF : ∀ k, F k → N ≤ k) : Below N u v := ⟨h.os, h.tape, h.output, h.size, fun k hk => h.block k (by omega) (fun hf => by have := hF k hf; omega)⟩
theorem grown_refl (w : World) (row : Option Nat) : w.grownBy w row := ⟨rfl, rfl, rfl, Nat.le_refl _, fun _ _ _ => rfl⟩
theorem grown_trans {u v w : World} {row : Option Nat} (h : u.grownBy v row) (h2 : v.grownBy w row) : u.grownBy w row := ⟨h2.os.trans h.os, h2.tape.trans h.tape, h2.output.trans h.output, Nat.le_trans h.size h2.size, fun k hk hn => (h2.block k (Nat.lt_of_lt_of_le hk h.size) hn).trans (h.block k hk hn)⟩
theorem grown_call {u v : World} {row : Option Nat} (hb : Below u.heap.size u v) : u.grownBy v row := ⟨hb.os, hb.tape, hb.output, hb.size, fun k hk _ => hb.block k hk⟩
theorem row_addr {W : World} {base e size n c : Nat} {a : Option Addr} {xs : List Value} (h : W.ownsRow base e size (.slice a n c) n xs) (hn : 0 < n) : ∃ g, a = some ⟨g, 0, none⟩ ∧ g < W.heap.size := by
 rcases h.2 with ⟨_, h0⟩ | ⟨g, cap, cur, hv, _, hh, _⟩
 · omega
 · simp only [Value.slice.injEq] at hv
   exact ⟨g, hv.1, (Array.getElem?_eq_some_iff.1 hh).1⟩
theorem flat3 {α : Type} (f : α → List Value) (hf : ∀ a, (f a).length = 3) : ∀ (l : List α) (k : Nat) (hk : k < l.length) (j : Nat), j < 3 → (l.flatMap f)[k * 3 + j]? = (f (l[k]))[j]?
 | [], k, hk, _, _ => absurd hk (Nat.not_lt_zero _)
 | x :: r, 0, _, j, hj => by
  rw [List.flatMap_cons, List.getElem?_append_left (by rw [hf]; omega)]
  simp
 | x :: r, k + 1, hk, j, hj => by
  have ih := flat3 f hf r k (by simpa using hk) j hj
  rw [List.flatMap_cons, List.getElem?_append_right (by rw [hf]; omega), hf]
  have e : (k + 1) * 3 + j - 3 = k * 3 + j := by omega
  rw [e, ih]
  simp
theorem rC_at (rs : List R3) (vs : List Value) (k : Nat) (hk : k < rs.length) : (rC rs vs)[k * 3]? = some (.string (rs.getD k r3z).key) ∧ (rC rs vs)[k * 3 + 1]? = some (vs.getD k undef) ∧ (rC rs vs)[k * 3 + 2]? = some (.string (rs.getD k r3z).out) := by
 have h := flat3 (fun i => [Value.string (rs.getD i r3z).key, vs.getD i undef, Value.string (rs.getD i r3z).out]) (fun _ => rfl) (List.range rs.length) k (by simpa using hk)
 have h0 := h 0 (by omega)
 have h1 := h 1 (by omega)
 have h2 := h 2 (by omega)
 simp only [List.getElem_range] at h0 h1 h2
 exact ⟨h0, h1, h2⟩
theorem recs_own {W : World} {base : Nat} {a2 : Option Addr} {c2 : Nat} {rs : List R3} {vs : List Value} (h : RecOwn W base (.slice a2 rs.length c2) rs vs) : RecsAt W a2 rs := by
 have hrow := h.row
 rcases h.row.2 with ⟨hv, h0⟩ | ⟨g, cap, cur, hv, hg, hh, _⟩
 · exact .inl (List.length_eq_zero_iff.1 h0)
 · simp only [Value.slice.injEq] at hv
   obtain ⟨rfl, _, rfl⟩ := hv
   refine .inr ⟨g, 0, rfl, (Array.getElem?_eq_some_iff.1 hh).1, fun k hk => ?_⟩
   obtain ⟨a0, a1, a2⟩ := rC_at rs vs k hk
   obtain ⟨a, c, e, h3⟩ := h.gl k hk
   refine ⟨a, c, ?_, ?_, ?_, gls_row h3⟩
   · rw [Nat.zero_add, hrow.cellAt (k * 3) (by omega)]; exact a0
   · rw [Nat.zero_add, hrow.cellAt (k * 3 + 1) (by omega), a1, e]
   · rw [Nat.zero_add, hrow.cellAt (k * 3 + 2) (by omega)]; exact a2
def mtx (k : Int) : ByteArray := ofL (109 :: dec k)
def MkT (K : Int) (n : Nat) (P : List ByteArray) : Prop := P.length = n ∧ ∀ j, j < n → P.getD j ByteArray.empty = mtx (K + (j : Int))
theorem getD_set_same {α : Type} {l : List α} {k : Nat} {x z : α} (h : k < l.length) : (l.set k x).getD k z = x := by simp [List.getD, h]
theorem getD_set_other {α : Type} {l : List α} {k j : Nat} {x z : α} (h : k ≠ j) : (l.set k x).getD j z = l.getD j z := by simp [List.getD, h]
set_option maxHeartbeats 2000000 in
theorem c57 (K : Int) (a : Option Addr) (cap N : Nat) (ts : List ByteArray) (w : World) (h1 : 1 ≤ K) (h2 : K ≤ 5000000) (hl : ts.length ≤ 1048576) (ho : w.ownsRow N 9 1 (.slice a ts.length cap) ts.length (ts.map Value.string)) :
 Calls Tryz.prog 57 #[.slice a ts.length cap, .int .i64 K] w fun e w' => e = .returned (.int .i64 (K + (ts.length : Int))) ∧ (∃ P, MkT K ts.length P ∧ w'.ownsRow N 9 1 (.slice a ts.length cap) ts.length (P.map Value.string)) ∧ w.grownBy w' (Value.slice a ts.length cap).ownBlock := by
 have HO := hidI ho
 clear ho
 go_enter Tryz.func57, Tryz.ntmps57
 go_wp2_with fail
 go_loopw [1, 5] (fun q i wr => ∃ (k : Nat) (P : List ByteArray), k ≤ ts.length ∧ i = .int .i64 k ∧ q = .int .i64 (K + (k : Int)) ∧ P.length = ts.length ∧ Hid (∀ j, j < k → P.getD j ByteArray.empty = mtx (K + (j : Int))) ∧ Hid (wr.ownsRow N 9 1 (.slice a ts.length cap) ts.length (P.map Value.string)) ∧ Hid (w.grownBy wr (Value.slice a ts.length cap).ownBlock)) (fun _ i _ => ts.length - (Go.RowKit.intOf i).toNat)
 case atStart => exact ⟨0, ts, Nat.zero_le _, rfl, by simp, rfl, fun j h => absurd h (Nat.not_lt_zero _), HO, grown_refl _ _⟩
 case round =>
  obtain ⟨k, P, hk, rfl, rfl, hP, hd, hown, hg⟩ := hrel
  by_cases hlt : k < ts.length
  · obtain ⟨g, rfl, hgl⟩ := row_addr hown.out (by omega)
    have q0 : wr.cell? ⟨g, k, none⟩ = some (.string (P.getD k ByteArray.empty)) := by
     rw [hown.out.cellAt k (by omega), List.getElem?_map, List.getElem?_eq_getElem (by omega)]
     simp [List.getD, List.getElem?_eq_getElem (show k < P.length by omega)]
    have f0 := hown.out.frozenAt k
    go_wp2_with fail
    refine (c60 (K + (k : Int)) wr (by omega) (by omega)).mono ?_
    rintro e w1 ⟨rfl, hb1⟩
    have p0 := (hb1.cell (p := ⟨g, k, none⟩) hgl).trans q0
    have pf := (hb1.frozen (p := ⟨g, k, none⟩) hgl).trans f0
    obtain ⟨s1, s2⟩ := (own_below hown.out hb1).stored k (.string (mtx (K + (k : Int))))
    rw [← List.map_set] at s1
    have HS := hidI s1
    have HG := hidI (grown_trans hg.out (grown_trans (grown_call hb1) s2))
    have HD : Hid (∀ j, j < k + 1 → (P.set k (mtx (K + (k : Int)))).getD j ByteArray.empty = mtx (K + (j : Int))) := fun j hj => by
     by_cases e : j = k
     · subst e; exact getD_set_same (by omega)
     · rw [getD_set_other (fun h => e h.symm)]; exact hd.out j (by omega)
    clear s1 s2 hown hg hd hb1
    go_wp2
    go_roundw
    case rel => exact ⟨k + 1, _, by omega, by go_num, by go_num, by simpa using hP, HD, HS, HG⟩
    case measure => simp [Go.RowKit.intOf]; omega
  · obtain rfl : k = ts.length := by omega
    go_wp2
    go_ret
    exact ⟨rfl, ⟨P, ⟨hP, hd.out⟩, hown.out⟩, hg.out⟩
def mkG (K : Int) : G3 := ⟨(K % 3 == 0), mtx (K + 1), mtx (K + 2)⟩
def MkG (K : Int) (n : Nat) (P : List G3) : Prop := P.length = n ∧ ∀ j, j < n → P.getD j g3z = mkG (K + 3 * (j : Int))
theorem gC_set : ∀ (P : List G3) (k : Nat) (x : G3), k < P.length → gC (P.set k x) = (((gC P).set (k * 3) (.bool x.nm)).set (k * 3 + 1) (.string x.tl)).set (k * 3 + 2) (.string x.ar)
 | [], k, x, h => absurd h (Nat.not_lt_zero _)
 | y :: r, 0, x, h => rfl
 | y :: r, k + 1, x, h => by
  have ih := gC_set r k x (by simpa using h)
  have e1 : (k + 1) * 3 = k * 3 + 1 + 1 + 1 := by omega
  rw [e1]
  show _ :: _ :: _ :: gC (r.set k x) = _
  rw [ih]
  rfl
set_option maxHeartbeats 2000000 in
theorem c101 (K : Int) (a : Option Addr) (cap N : Nat) (gs : List G3) (w : World) (h1 : 1 ≤ K) (h2 : K ≤ 5000000) (hl : gs.length ≤ 1640000) (ho : w.ownsRow N 127 3 (.slice a gs.length cap) gs.length (gC gs)) :
 Calls Tryz.prog 101 #[.slice a gs.length cap, .int .i64 K] w fun e w' => e = .returned (.int .i64 (K + 3 * (gs.length : Int))) ∧ (∃ P, MkG K gs.length P ∧ w'.ownsRow N 127 3 (.slice a gs.length cap) gs.length (gC P)) ∧ w.grownBy w' (Value.slice a gs.length cap).ownBlock := by
 have HO := hidI ho
 clear ho
 go_enter Tryz.func101, Tryz.ntmps101
 go_wp2_with fail
 go_loopw [1, 5] (fun q i wr => ∃ (k : Nat) (P : List G3), k ≤ gs.length ∧ i = .int .i64 k ∧ q = .int .i64 (K + 3 * (k : Int)) ∧ P.length = gs.length ∧ Hid (∀ j, j < k → P.getD j g3z = mkG (K + 3 * (j : Int))) ∧ Hid (wr.ownsRow N 127 3 (.slice a gs.length cap) gs.length (gC P)) ∧ Hid (w.grownBy wr (Value.slice a gs.length cap).ownBlock)) (fun _ i _ => gs.length - (Go.RowKit.intOf i).toNat)
 case atStart => exact ⟨0, gs, Nat.zero_le _, rfl, by simp, rfl, fun j h => absurd h (Nat.not_lt_zero _), HO, grown_refl _ _⟩
 case round =>
  obtain ⟨k, P, hk, rfl, rfl, hP, hd, hown, hg⟩ := hrel
  by_cases hlt : k < gs.length
  · obtain ⟨g, rfl, hgl⟩ := row_addr hown.out (by omega)
    obtain ⟨a0, a1, a2⟩ := gC_at P k (by omega)
    have q0 := (hown.out.cellAt (k * 3) (by omega)).trans a0
    have q1 := (hown.out.cellAt (k * 3 + 1) (by omega)).trans a1
    have q2 := (hown.out.cellAt (k * 3 + 2) (by omega)).trans a2
    have f0 := hown.out.frozenAt (k * 3)
    clear a0 a1 a2
    obtain ⟨s1, s2⟩ := hown.out.stored (k * 3) (.bool (K % 3 == 0))
    have HS1 := hidI s1
    have HG1 := hidI (grown_trans hg.out s2)
    clear s1 s2
    go_wp2_with fail
    refine (c60 _ _ (by omega) (by omega)).mono ?_
    rintro e w1 ⟨rfl, hb1⟩
    have hgl1 : g < w1.heap.size := by have := hb1.size; simp at this; omega
    have HS1' := hidI (own_below HS1.out hb1)
    have HG1' := hidI (grown_trans HG1.out (grown_call hb1))
    have r1 : w1.cell? ⟨g, k * 3 + 1, none⟩ = some (.string (P.getD k g3z).tl) := (hb1.cell (p := ⟨g, k * 3 + 1, none⟩) (by simpa using hgl)).trans ((World.cell?_setCell_other _ _ _ _ (adr_ne (by omega))).trans q1)
    have f1 := HS1'.out.frozenAt (k * 3 + 1)
    obtain ⟨s1, s2⟩ := HS1'.out.stored (k * 3 + 1) (.string (ofL (109 :: dec (K + 3 * (k : Int) + 1))))
    have HS2 := hidI s1
    have HG2 := hidI (grown_trans HG1'.out s2)
    have r2 : w1.cell? ⟨g, k * 3 + 2, none⟩ = some (.string (P.getD k g3z).ar) := (hb1.cell (p := ⟨g, k * 3 + 2, none⟩) (by simpa using hgl)).trans ((World.cell?_setCell_other _ _ _ _ (adr_ne (by omega))).trans q2)
    clear s1 s2 hb1 q0 q1 q2 f0 HS1 HG1
    go_wp2_with fail
    refine (c60 _ _ (by omega) (by omega)).mono ?_
    rintro e w2 ⟨rfl, hb2⟩
    have HS2' := hidI (own_below HS2.out hb2)
    have HG2' := hidI (grown_trans HG2.out (grown_call hb2))
    have t2 : w2.cell? ⟨g, k * 3 + 2, none⟩ = some (.string (P.getD k g3z).ar) := (hb2.cell (p := ⟨g, k * 3 + 2, none⟩) (by simpa using hgl1)).trans ((World.cell?_setCell_other _ _ _ _ (adr_ne (by omega))).trans r2)
    have f2 := HS2'.out.frozenAt (k * 3 + 2)
    obtain ⟨s1, s2⟩ := HS2'.out.stored (k * 3 + 2) (.string (ofL (109 :: dec (K + 3 * (k : Int) + 1 + 1))))
    have e2 : K + 3 * (k : Int) + 1 + 1 = K + 3 * (k : Int) + 2 := by omega
    have eG : gC (P.set k (mkG (K + 3 * (k : Int)))) = (((gC P).set (k * 3) (.bool (K % 3 == 0))).set (k * 3 + 1) (.string (ofL (109 :: dec (K + 3 * (k : Int) + 1))))).set (k * 3 + 2) (.string (ofL (109 :: dec (K + 3 * (k : Int) + 1 + 1)))) := by
     rw [gC_set _ _ _ (by omega), e2]
     unfold mkG mtx
     simp only []
     rw [Int.add_mul_emod_self_left]
    rw [← eG] at s1
    have HS3 := hidI s1
    have HG3 := hidI (grown_trans HG2'.out s2)
    have HD : Hid (∀ j, j < k + 1 → (P.set k (mkG (K + 3 * (k : Int)))).getD j g3z = mkG (K + 3 * (j : Int))) := fun j hj => by
     by_cases e : j = k
     · subst e; exact getD_set_same (by omega)
     · rw [getD_set_other (fun h => e h.symm)]; exact hd.out j (by omega)
    clear e2 s1 s2 hb2 r1 r2 f1 HS1' HS2 HG1' HG2 HS2' HG2' eG hown hg hd
    go_wp2
    go_roundw
    case rel => exact ⟨k + 1, _, by omega, by go_num, by go_num, by simpa using hP, HD, HS3, HG3⟩
    case measure => simp [Go.RowKit.intOf]; omega
  · obtain rfl : k = gs.length := by omega
    go_wp2
    go_ret
    exact ⟨rfl, ⟨P, ⟨hP, hd.out⟩, hown.out⟩, hg.out⟩
end Go.Proofs.YtboojefodbjbcaaGreatDoor
namespace Go.Proofs.YtboojefodbjbcaaGreatDoor
open Go.RowKit Go.Maps
set_option maxRecDepth 100000
set_option linter.unusedVariables false
theorem ofT_fill {B : Nat} {t : TypeId} (vs : List Value) : ∀ {u : World} (j : Nat), OfT u B t → OfT (fill u B j vs) B t := by
 induction vs with
 | nil => intro u j h; exact h
 | cons v r ih => intro u j h; exact ih (j + 1) (ofT_set h j v)
theorem st_overT {u : World} {B N : Nat} {t : TypeId} {old vs : List Value} {P : World → Prop} (hl : old.length = vs.length) (hB : BlkAt u B old) (hO : OpnAt u B) (hT : OfT u B t) (hN : N ≤ B) (h : ∀ u', Below N u u' → BlkAt u' B vs → OpnAt u' B → OfT u' B t → u.heap.size ≤ u'.heap.size → (∀ k, k < u.heap.size → k ≠ B → u'.heap[k]? = u.heap[k]?) → P u') : P (fill u B 0 vs) :=
 h _ (below_fill hN _ _ (Below.refl _ _)) (BlkAt.fill0 hB hl) (OpnAt.fill _ _ hO) (ofT_fill _ _ hT) (by rw [size_fill]; exact Nat.le_refl _) (fun k _ hne => heap_fill k hne _ _)
theorem RecOwn.keep {W W' : World} {base : Nat} {v : Value} {rs : List R3} {vs : List Value} (h : RecOwn W base v rs vs) (hk : ∀ q t, OfT W q t → t = 82 ∨ t = 127 → base ≤ q → W'.heap[q]? = W.heap[q]?) : RecOwn W' base v rs vs :=
 ⟨h.len, own_keep' h.row (fun q hq => hk q 82 (own_ofT h.row hq) (.inl rfl) (own_blk h.row hq)), fun i hi => by
  obtain ⟨a, c, e, h3⟩ := h.gl i hi
  exact ⟨a, c, e, own_keep' h3 (fun q hq => hk q 127 (own_ofT h3 hq) (.inr rfl) (own_blk h3 hq))⟩, h.apart⟩
theorem ofT_lt {W : World} {q : Nat} {t : TypeId} (h : OfT W q t) : q < W.heap.size := by
 obtain ⟨cur, fr, e⟩ := h
 exact (Array.getElem?_eq_some_iff.1 e).1
end Go.Proofs.YtboojefodbjbcaaGreatDoor
