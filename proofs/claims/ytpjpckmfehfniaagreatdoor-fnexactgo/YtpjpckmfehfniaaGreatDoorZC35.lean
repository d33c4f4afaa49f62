import Derived.Test.YtpjpckmfehfniaaGreatDoorZC34
import Derived.Laws.OwnMore
import Derived.Test.YtpjpckmfehfniaaGreatDoorZC29
namespace Go.Proofs.YtpjpckmfehfniaaGreatDoor.M
open Go.RowKit

theorem info76 : (Tryz.prog.info? 76).map (fun i => (i.zero, i.size, i.bytes)) = some (some (.agg #[Value.bool false, .string ⟨#[]⟩, .int .i64 0, .string ⟨#[]⟩]), 4, 48) := by kernel_rfl
theorem madeL (n j : Nat) (h : j < n * 4) : (madeCells #[Value.bool false, .string ⟨#[]⟩, .int .i64 0, .string ⟨#[]⟩] (n * 4))[j]? = (#[Value.bool false, .string ⟨#[]⟩, .int .i64 0, .string ⟨#[]⟩] : Array Value)[j % 4]? := by
  have h3 : j % 4 < 4 := Nat.mod_lt _ (by omega)
  rw [Array.getElem?_eq_getElem (by simpa [size_madeCells] using h), Array.getElem?_eq_getElem (by simpa using h3)]
  simp [madeCells, h3]
set_option maxHeartbeats 1000000 in
theorem c10 (a : Option Addr) (cap : Nat) (is : List L4) (w : World) (hl : is.length ≤ 1048576) (hat : LksAt w a is) :
    Calls Tryz.prog 10 #[.slice a is.length cap] w fun e w' => (e = .returned (.slice (some ⟨w.heap.size, 0, none⟩) is.length is.length) ∧ LksAt w' (some ⟨w.heap.size, 0, none⟩) is) ∧ Below w.heap.size w w' := by
  obtain ⟨b, off, hc⟩ := lks_some hat
  have HC : Hid (is = [] ∨ (a = some ⟨b, off, none⟩ ∧ b < w.heap.size ∧ ∀ i, i < is.length → w.cell? ⟨b, off + i * 4, none⟩ = some (.bool (is.getD i l4z).has) ∧ w.cell? ⟨b, off + i * 4 + 1, none⟩ = some (.string (is.getD i l4z).nm) ∧ w.cell? ⟨b, off + i * 4 + 2, none⟩ = some (.int .i64 (is.getD i l4z).cd) ∧ w.cell? ⟨b, off + i * 4 + 3, none⟩ = some (.string (is.getD i l4z).tx))) := hc
  clear hc hat
  obtain ⟨i0, hi, hz0, hz1, hz2⟩ := info_parts info76
  have hmk : ∀ u : World, (Instr.makeSlice 34 (.int .i64 (is.length : Int)) (.int .i64 (is.length : Int))).run Tryz.prog u =
      .ok (.slice (some ⟨u.heap.size, 0, none⟩) is.length is.length) (u.alloc (.cells (madeCells #[.bool false, .string ⟨#[]⟩, .int .i64 0, .string ⟨#[]⟩] (is.length * 4)) 76)) := fun u => by
    have h := run_make (P := Tryz.prog) u 34 76 i0 (.agg #[.bool false, .string ⟨#[]⟩, .int .i64 0, .string ⟨#[]⟩]) Tryz.underlying34 hi hz0 .i64 .i64 (is.length : Int) (is.length : Int) (by omega) (Int.le_refl _) (by rw [hz2]; omega) (by omega)
    simpa [hz1, Value.cells] using h
  go_enter Tryz.func10, Tryz.ntmps10
  go_wp2_with fail
  go_loopw [4] (fun i wr => ∃ (k : Nat), k ≤ is.length ∧ i = .int .i64 k ∧ Below w.heap.size w wr ∧ w.heap.size + 1 ≤ wr.heap.size ∧ (∀ j, wr.frozen? ⟨w.heap.size, j, none⟩ = false) ∧ Hid (∀ j, j < k → wr.cell? ⟨w.heap.size, j * 4, none⟩ = some (.bool (is.getD j l4z).has) ∧ wr.cell? ⟨w.heap.size, j * 4 + 1, none⟩ = some (.string (is.getD j l4z).nm) ∧ wr.cell? ⟨w.heap.size, j * 4 + 2, none⟩ = some (.int .i64 (is.getD j l4z).cd) ∧ wr.cell? ⟨w.heap.size, j * 4 + 3, none⟩ = some (.string (is.getD j l4z).tx)) ∧ Hid (∀ j, k ≤ j → j < is.length → wr.cell? ⟨w.heap.size, j * 4, none⟩ = some (.bool false) ∧ wr.cell? ⟨w.heap.size, j * 4 + 1, none⟩ = some (.string ⟨#[]⟩) ∧ wr.cell? ⟨w.heap.size, j * 4 + 2, none⟩ = some (.int .i64 0) ∧ wr.cell? ⟨w.heap.size, j * 4 + 3, none⟩ = some (.string ⟨#[]⟩))) (fun i _ => is.length - (intOf i).toNat)
  case atStart =>
    refine ⟨0, Nat.zero_le _, rfl, (Below.refl _ _).alloc (Nat.le_refl _) _, by simp, fun j => by simp, fun j h => absurd h (Nat.not_lt_zero _), fun j _ h => ?_⟩
    have e0 := madeL is.length (j * 4) (by omega)
    have e1 := madeL is.length (j * 4 + 1) (by omega)
    have e2 := madeL is.length (j * 4 + 2) (by omega)
    have e3 := madeL is.length (j * 4 + 3) (by omega)
    rw [show j * 4 % 4 = 0 by omega] at e0
    rw [show (j * 4 + 1) % 4 = 1 by omega] at e1
    rw [show (j * 4 + 2) % 4 = 2 by omega] at e2
    rw [show (j * 4 + 3) % 4 = 3 by omega] at e3
    simp [e0, e1, e2, e3]
  case round =>
    obtain ⟨k, hk, rfl, hb, hz, hfz, hdone, hrest⟩ := hrel
    by_cases hlt : k < is.length
    · rcases HC.out with hss | ⟨ha, hbw, hcell⟩
      · rw [hss] at hlt; exact absurd hlt (Nat.not_lt_zero _)
      subst ha
      have g0 := (hb.cell (p := ⟨b, off + k * 4, none⟩) hbw).trans (hcell k hlt).1
      have g1 := (hb.cell (p := ⟨b, off + k * 4 + 1, none⟩) hbw).trans (hcell k hlt).2.1
      have g2 := (hb.cell (p := ⟨b, off + k * 4 + 2, none⟩) hbw).trans (hcell k hlt).2.2.1
      have g3 := (hb.cell (p := ⟨b, off + k * 4 + 3, none⟩) hbw).trans (hcell k hlt).2.2.2
      obtain ⟨q0, q1, q2, q3⟩ := hrest.out k (Nat.le_refl _) hlt
      generalize hx : is.getD k l4z = x at *
      have HX : Hid (is.getD k l4z = x) := hx
      clear hx hcell
      go_wp2_with fail
      refine (c37 x wr).mono ?_
      rintro e w1 ⟨rfl, hb1⟩
      have hB1 : Below w.heap.size w w1 := hb.trans (hb1.mono hb.size)
      have p0 := (hb1.cell (p := ⟨w.heap.size, k * 4, none⟩) (by simp; omega)).trans q0
      have p1 := (hb1.cell (p := ⟨w.heap.size, k * 4 + 1, none⟩) (by simp; omega)).trans q1
      have p2 := (hb1.cell (p := ⟨w.heap.size, k * 4 + 2, none⟩) (by simp; omega)).trans q2
      have p3 := (hb1.cell (p := ⟨w.heap.size, k * 4 + 3, none⟩) (by simp; omega)).trans q3
      have f0 := (hb1.frozen (p := ⟨w.heap.size, k * 4, none⟩) (by simp; omega)).trans (hfz _)
      have f1 := (hb1.frozen (p := ⟨w.heap.size, k * 4 + 1, none⟩) (by simp; omega)).trans (hfz _)
      have f2 := (hb1.frozen (p := ⟨w.heap.size, k * 4 + 2, none⟩) (by simp; omega)).trans (hfz _)
      have f3 := (hb1.frozen (p := ⟨w.heap.size, k * 4 + 3, none⟩) (by simp; omega)).trans (hfz _)
      have HO : Hid (∀ j, w1.cell? ⟨w.heap.size, j, none⟩ = wr.cell? ⟨w.heap.size, j, none⟩) := fun j => hb1.cell (by simp; omega)
      have hoz : w.heap.size + 1 ≤ w1.heap.size := Nat.le_trans hz hb1.size
      have HFZ : Hid (∀ j, w1.frozen? ⟨w.heap.size, j, none⟩ = false) := fun j => (hb1.frozen (p := ⟨w.heap.size, j, none⟩) (by simp; omega)).trans (hfz j)
      go_wp2
      go_roundw
      case rel =>
        refine ⟨k + 1, by omega, by go_num, (((hB1.setCell (by simp) _).setCell (by simp) _).setCell (by simp) _).setCell (by simp) _, by simpa using hoz, fun j => by rw [← HFZ.out j]; simp, fun j hj => ?_, fun j h1 h2 => ?_⟩
        · by_cases e : j = k
          · subst e
            rw [HX.out]
            exact set4_at w1 w.heap.size (j * 4) _ _ _ _ _ _ _ _ p0 p1 p2 p3
          · have hd := hdone.out j (by omega)
            rw [set4_other _ _ _ _ _ _ _ _ (by omega) (by omega) (by omega) (by omega), set4_other _ _ _ _ _ _ _ _ (by omega) (by omega) (by omega) (by omega), set4_other _ _ _ _ _ _ _ _ (by omega) (by omega) (by omega) (by omega), set4_other _ _ _ _ _ _ _ _ (by omega) (by omega) (by omega) (by omega), HO.out, HO.out, HO.out, HO.out]
            exact hd
        · have hd := hrest.out j (by omega) h2
          rw [set4_other _ _ _ _ _ _ _ _ (by omega) (by omega) (by omega) (by omega), set4_other _ _ _ _ _ _ _ _ (by omega) (by omega) (by omega) (by omega), set4_other _ _ _ _ _ _ _ _ (by omega) (by omega) (by omega) (by omega), set4_other _ _ _ _ _ _ _ _ (by omega) (by omega) (by omega) (by omega), HO.out, HO.out, HO.out, HO.out]
          exact hd
      case measure => simp [intOf]; omega
    · have hdone' : Hid (LksAt wr (some ⟨w.heap.size, 0, none⟩) is) := .inr ⟨w.heap.size, 0, rfl, by omega, fun i hi => by simp only [Nat.zero_add]; exact hdone.out i (by omega)⟩
      go_wp2
      go_ret
      exact ⟨⟨rfl, hdone'.out⟩, hb⟩
end Go.Proofs.YtpjpckmfehfniaaGreatDoor.M
namespace Go.Proofs.YtpjpckmfehfniaaGreatDoor.M
open Go.RowKit

set_option maxHeartbeats 1000000 in
theorem c6 (x : M3) (l : Int) (w : World) (hs : x.le 9223372036854775807) (h0 : 0 ≤ l) (h1 : l ≤ 1048576) :
    Calls Tryz.prog 6 #[.agg #[.string x.nm, .string x.tl, .string x.ar], .int .i64 l] w fun e w' => (∃ r : Int, e = .returned (.int .i64 r) ∧ (0 ≤ r → x.le 1048576 ∧ r ≤ 1048576)) ∧ Below w.heap.size w w' := by
  obtain ⟨s1, s2, s3⟩ := hs
  have HL : Hid (∀ r : Int, (0 ≤ r → ((x.nm.size : Int) ≤ l ∧ (x.tl.size : Int) ≤ l ∧ (x.ar.size : Int) ≤ l ∧ r ≤ l)) → (0 ≤ r → x.le 1048576 ∧ r ≤ 1048576)) := fun r h g => by
    have := h g
    exact ⟨⟨by omega, by omega, by omega⟩, by omega⟩
  by_cases h' : l < x.nm.size
  · go_enter Tryz.func6, Tryz.ntmps6
    go_wp2
    go_ret
    exact ⟨⟨-1, rfl, HL.out _ fun h => by omega⟩, (Below.refl _ _).alloc (Nat.le_refl _) _⟩
  · by_cases h'' : l < x.nm.size + x.tl.size
    · go_enter Tryz.func6, Tryz.ntmps6
      go_wp2
      go_ret
      exact ⟨⟨-1, rfl, HL.out _ fun h => by omega⟩, (Below.refl _ _).alloc (Nat.le_refl _) _⟩
    · by_cases h3 : l < x.nm.size + x.tl.size + x.ar.size
      · go_enter Tryz.func6, Tryz.ntmps6
        go_wp2
        go_ret
        exact ⟨⟨-1, rfl, HL.out _ fun h => by omega⟩, (Below.refl _ _).alloc (Nat.le_refl _) _⟩
      · go_enter Tryz.func6, Tryz.ntmps6
        go_wp2
        go_ret
        exact ⟨⟨_, rfl, HL.out _ fun h => by omega⟩, (Below.refl _ _).alloc (Nat.le_refl _) _⟩
set_option maxHeartbeats 400000 in
theorem c9 (x : M3) (w : World) :
    Calls Tryz.prog 9 #[.agg #[.string x.nm, .string x.tl, .string x.ar]] w fun e w' => e = .returned (.agg #[.string x.nm, .string x.tl, .string x.ar]) ∧ Below w.heap.size w w' := by
  go_enter Tryz.func9, Tryz.ntmps9
  go_wp2
  refine bodyPost_ret (v := .agg #[.string x.nm, .string x.tl, .string x.ar]) (by simp [results, Tryz.results9, go_sem]) rfl ⟨rfl, ?_⟩
  exact (((Below.refl _ _).alloc (Nat.le_refl _) _).alloc (by simp) _).alloc (by simp; omega) _

/-- A deed: Name, Made, Make, Looks, Result. -/
structure D8 where
  nm : ByteArray
  made : Bool
  km : M3
  ls : List L4
  cd : Int
  tx : ByteArray
def d8z : D8 := ⟨⟨#[]⟩, false, m3z, [], 0, ⟨#[]⟩⟩
def D8.le (x : D8) (B : Nat) : Prop := x.nm.size ≤ B ∧ x.km.le B ∧ (x.ls.length ≤ B ∧ ∀ i, (x.ls.getD i l4z).le B) ∧ x.tx.size ≤ B
def DeedAt (w : World) (b o : Nat) (x : D8) : Prop := ∃ ai ci, (w.cell? ⟨b, o, none⟩ = some (.string x.nm) ∧ w.cell? ⟨b, o + 1, none⟩ = some (.bool x.made) ∧ w.cell? ⟨b, o + 2, none⟩ = some (.string x.km.nm) ∧ w.cell? ⟨b, o + 3, none⟩ = some (.string x.km.tl) ∧ w.cell? ⟨b, o + 4, none⟩ = some (.string x.km.ar) ∧ w.cell? ⟨b, o + 5, none⟩ = some (.slice ai x.ls.length ci) ∧ w.cell? ⟨b, o + 6, none⟩ = some (.int .i64 x.cd) ∧ w.cell? ⟨b, o + 7, none⟩ = some (.string x.tx)) ∧ LksAt w ai x.ls
def DeedsAt (w : World) (a : Option Addr) (is : List D8) : Prop := is = [] ∨ ∃ b off, a = some ⟨b, off, none⟩ ∧ b < w.heap.size ∧ ∀ i, i < is.length → DeedAt w b (off + i * 8) (is.getD i d8z)
theorem DeedAt.below {w w' : World} {b o : Nat} {x : D8} (h : DeedAt w b o x) (hlt : b < w.heap.size) (hb : Below w.heap.size w w') : DeedAt w' b o x := by
  obtain ⟨ai, ci, hc, hg⟩ := h
  refine ⟨ai, ci, ?_, lks_below hg hb⟩
  rw [hb.cell (by exact hlt), hb.cell (by exact hlt), hb.cell (by exact hlt), hb.cell (by exact hlt), hb.cell (by exact hlt), hb.cell (by exact hlt), hb.cell (by exact hlt), hb.cell (by exact hlt)]
  exact hc
theorem deeds_some {w : World} {a : Option Addr} {is : List D8} (h : DeedsAt w a is) : ∃ b off, (is = [] ∨ (a = some ⟨b, off, none⟩ ∧ b < w.heap.size ∧ ∀ i, i < is.length → DeedAt w b (off + i * 8) (is.getD i d8z))) := by
  rcases h with h | ⟨b, off, h⟩
  · exact ⟨0, 0, .inl h⟩
  · exact ⟨b, off, .inr h⟩
theorem deeds_below {w w' : World} {a : Option Addr} {is : List D8} (h : DeedsAt w a is) (hb : Below w.heap.size w w') : DeedsAt w' a is := by
  rcases h with h | ⟨b, off, h1, h2, h3⟩
  · exact .inl h
  · exact .inr ⟨b, off, h1, Nat.lt_of_lt_of_le h2 hb.size, fun i hi => (h3 i hi).below h2 hb⟩
theorem getD_smallD {is : List D8} {B : Nat} (h : ∀ i, i < is.length → (is.getD i d8z).le B) (i : Nat) : (is.getD i d8z).le B := by
  rcases Nat.lt_or_ge i is.length with h' | h'
  · exact h i h'
  · have e : is.getD i d8z = d8z := by simp [List.getD, List.getElem?_eq_none h']
    rw [e]; exact ⟨Nat.zero_le _, ⟨Nat.zero_le _, Nat.zero_le _, Nat.zero_le _⟩, ⟨Nat.zero_le _, fun i => ⟨Nat.zero_le _, Nat.zero_le _⟩⟩, Nat.zero_le _⟩

end Go.Proofs.YtpjpckmfehfniaaGreatDoor.M
namespace Go.Proofs.YtpjpckmfehfniaaGreatDoor.M
open Go.RowKit
/-- A block's first cells. -/
def BlkAt (u : World) (B : Nat) (vs : List Value) : Prop := ∀ j v, vs[j]? = some v → u.cell? ⟨B, j, none⟩ = some v
def OpnAt (u : World) (B : Nat) : Prop := ∀ j, u.frozen? ⟨B, j, none⟩ = false
theorem blk_new (w : World) (vs : List Value) (t : TypeId) : BlkAt (w.alloc (.cells vs.toArray t)) w.heap.size vs := fun j v h => by
  simp [go_sem, h]
theorem opn_new (w : World) (a : Array Value) (t : TypeId) : OpnAt (w.alloc (.cells a t)) w.heap.size := fun j => by simp [go_sem]
theorem BlkAt.below {u u' : World} {B N : Nat} {vs : List Value} (h : BlkAt u B vs) (hb : Below N u u') (hN : B < N) : BlkAt u' B vs := fun j v e => (hb.cell (p := ⟨B, j, none⟩) hN).trans (h j v e)
theorem OpnAt.below {u u' : World} {B N : Nat} (h : OpnAt u B) (hb : Below N u u') (hN : B < N) : OpnAt u' B := fun j => (hb.frozen (p := ⟨B, j, none⟩) hN).trans (h j)
theorem BlkAt.set {u : World} {B : Nat} {vs : List Value} (h : BlkAt u B vs) (j : Nat) (v : Value) (hj : j < vs.length) : BlkAt (u.setCell ⟨B, j, none⟩ v) B (vs.set j v) := fun i x e => by
  rcases Nat.decEq i j with hne | rfl
  · rw [World.cell?_setCell_other _ _ _ _ (adr_ne (fun e => hne e.symm))]
    rw [List.getElem?_set_ne (fun h => hne h.symm)] at e
    exact h i x e
  · rw [List.getElem?_set_self hj] at e
    obtain rfl := Option.some.inj e
    exact World.cell?_setCell_same _ _ _ (h i _ (List.getElem?_eq_getElem hj))
theorem BlkAt.other {u : World} {B : Nat} {vs : List Value} (h : BlkAt u B vs) (p : Addr) (v : Value) (hp : p.block ≠ B) : BlkAt (u.setCell p v) B vs := fun i x e => by
  rw [World.cell?_setCell_other _ _ _ _ (fun h => hp (by rw [h]))]
  exact h i x e
theorem OpnAt.set {u : World} {B : Nat} (h : OpnAt u B) (p : Addr) (v : Value) : OpnAt (u.setCell p v) B := fun j => by simpa using h j
/-- Stores one behind the other. -/
def fill (u : World) (B : Nat) : Nat → List Value → World
  | _, [] => u
  | j, v :: vs => fill (u.setCell ⟨B, j, none⟩ v) B (j + 1) vs
theorem BlkAt.fill {B : Nat} (vs : List Value) : ∀ {u : World} (pre old post : List Value) (j : Nat), BlkAt u B (pre ++ old ++ post) → old.length = vs.length → j = pre.length → BlkAt (fill u B j vs) B (pre ++ vs ++ post) := by
  induction vs with
  | nil => intro u pre old post j h hl _; obtain rfl : old = [] := List.length_eq_zero_iff.1 hl; exact h
  | cons v vs ih =>
    intro u pre old post j h hl hj
    match old, hl with
    | o :: old, hl =>
      subst hj
      have h1 := h.set pre.length v (by simp)
      have e : (pre ++ (o :: old) ++ post).set pre.length v = (pre ++ [v]) ++ old ++ post := by simp
      rw [e] at h1
      have := ih (pre ++ [v]) old post (pre.length + 1) h1 (by simpa using hl) (by simp)
      have e2 : pre ++ [v] ++ vs ++ post = pre ++ (v :: vs) ++ post := by simp
      rw [e2] at this
      exact this
theorem BlkAt.fillO {B B' : Nat} (hne : B ≠ B') (vs : List Value) : ∀ {u : World} {xs : List Value} (j : Nat), BlkAt u B' xs → BlkAt (Go.Proofs.YtpjpckmfehfniaaGreatDoor.M.fill u B j vs) B' xs := by
  induction vs with
  | nil => intro u xs j h; exact h
  | cons v vs ih => intro u xs j h; exact ih (j + 1) (h.other ⟨B, j, none⟩ v hne)
theorem OpnAt.fill {B B' : Nat} (vs : List Value) : ∀ {u : World} (j : Nat), OpnAt u B' → OpnAt (Go.Proofs.YtpjpckmfehfniaaGreatDoor.M.fill u B j vs) B' := by
  induction vs with
  | nil => intro u j h; exact h
  | cons v vs ih => intro u j h; exact ih (j + 1) (h.set ⟨B, j, none⟩ v)
theorem below_fill {B N : Nat} {w : World} (hN : N ≤ B) (vs : List Value) : ∀ {u : World} (j : Nat), Below N w u → Below N w (fill u B j vs) := by
  induction vs with
  | nil => intro u j h; exact h
  | cons v vs ih => intro u j h; exact ih (j + 1) (h.setCell (p := ⟨B, j, none⟩) hN v)
theorem size_fill {B : Nat} (vs : List Value) : ∀ {u : World} (j : Nat), (fill u B j vs).heap.size = u.heap.size := by
  induction vs with
  | nil => intro u j; rfl
  | cons v vs ih => intro u j; exact (ih (j + 1)).trans (by simp)
end Go.Proofs.YtpjpckmfehfniaaGreatDoor.M
