import Derived.Test.YtpjpckmfehfniaaGreatDoorZC19
import Derived.Test.YtpjpckmfehfniaaGreatDoorZC21
import Derived.Laws.Rows
import Derived.Laws.IdiomCopy
namespace Go.Proofs.YtpjpckmfehfniaaGreatDoor.M
open Go.RowKit
def BlkAt (u : World) (B : Nat) (vs : List Value) : Prop := ∀ j v, vs[j]? = some v → u.cell? ⟨B, j, none⟩ = some v
def OpnAt (u : World) (B : Nat) : Prop := ∀ j, u.frozen? ⟨B, j, none⟩ = false
theorem blk_new (w : World) (vs : List Value) (t : TypeId) : BlkAt (w.alloc (.cells vs.toArray t)) w.heap.size vs := fun j v h => by
 simp [go_sem, h]
theorem opn_new (w : World) (a : Array Value) (t : TypeId) : OpnAt (w.alloc (.cells a t)) w.heap.size := fun j => by simp [go_sem]
theorem BlkAt.below {u u' : World} {B N : Nat} {vs : List Value} (h : BlkAt u B vs) (hb : Below N u u') (hN : B < N) : BlkAt u' B vs := fun j v e => (hb.cell (p := ⟨B, j, none⟩) hN).trans (h j v e)
theorem OpnAt.below {u u' : World} {B N : Nat} (h : OpnAt u B) (hb : Below N u u') (hN : B < N) : OpnAt u' B := fun j => (hb.frozen (p := ⟨B, j, none⟩) hN).trans (h j)
theorem BlkAt.set {u : World} {B : Nat} {vs : List Value} (h : BlkAt u B vs) (j : Nat) (v : Value) (hj : j < vs.length) : BlkAt (u.setCell ⟨B, j, none⟩ v) B (vs.set j v) := fun i x e => by
 rcases Nat.decEq i j with hne | rfl
 · rw [World.cell?_setCell_other _ _ _ _ (adr_ne (fun e => hne e.symm))]
   rw [List.getElem?_set_ne (fun h => hne h.symm)] at e
   exact h i x e
 · rw [List.getElem?_set_self hj] at e
   obtain rfl := Option.some.inj e
   exact World.cell?_setCell_same _ _ _ (h i _ (List.getElem?_eq_getElem hj))
theorem BlkAt.other {u : World} {B : Nat} {vs : List Value} (h : BlkAt u B vs) (p : Addr) (v : Value) (hp : p.block ≠ B) : BlkAt (u.setCell p v) B vs := fun i x e => by
 rw [World.cell?_setCell_other _ _ _ _ (fun h => hp (by rw [h]))]
 exact h i x e
theorem OpnAt.set {u : World} {B : Nat} (h : OpnAt u B) (p : Addr) (v : Value) : OpnAt (u.setCell p v) B := fun j => by simpa using h j
def fill (u : World) (B : Nat) : Nat → List Value → World
 | _, [] => u
 | j, v :: vs => fill (u.setCell ⟨B, j, none⟩ v) B (j + 1) vs
theorem BlkAt.fill {B : Nat} (vs : List Value) : ∀ {u : World} (pre old post : List Value) (j : Nat), BlkAt u B (pre ++ old ++ post) → old.length = vs.length → j = pre.length → BlkAt (fill u B j vs) B (pre ++ vs ++ post) := by
 induction vs with
 | nil => intro u pre old post j h hl _; obtain rfl : old = [] := List.length_eq_zero_iff.1 hl; exact h
 | cons v vs ih =>
   intro u pre old post j h hl hj
   match old, hl with
   | o :: old, hl =>
     subst hj
     have h1 := h.set pre.length v (by simp)
     have e : (pre ++ (o :: old) ++ post).set pre.length v = (pre ++ [v]) ++ old ++ post := by simp
     rw [e] at h1
     have := ih (pre ++ [v]) old post (pre.length + 1) h1 (by simpa using hl) (by simp)
     have e2 : pre ++ [v] ++ vs ++ post = pre ++ (v :: vs) ++ post := by simp
     rw [e2] at this
     exact this
theorem BlkAt.fillO {B B' : Nat} (hne : B ≠ B') (vs : List Value) : ∀ {u : World} {xs : List Value} (j : Nat), BlkAt u B' xs → BlkAt (Go.Proofs.YtpjpckmfehfniaaGreatDoor.M.fill u B j vs) B' xs := by
 induction vs with
 | nil => intro u xs j h; exact h
 | cons v vs ih => intro u xs j h; exact ih (j + 1) (h.other ⟨B, j, none⟩ v hne)
theorem OpnAt.fill {B B' : Nat} (vs : List Value) : ∀ {u : World} (j : Nat), OpnAt u B' → OpnAt (Go.Proofs.YtpjpckmfehfniaaGreatDoor.M.fill u B j vs) B' := by
 induction vs with
 | nil => intro u j h; exact h
 | cons v vs ih => intro u j h; exact ih (j + 1) (h.set ⟨B, j, none⟩ v)
theorem below_fill {B N : Nat} {w : World} (hN : N ≤ B) (vs : List Value) : ∀ {u : World} (j : Nat), Below N w u → Below N w (fill u B j vs) := by
 induction vs with
 | nil => intro u j h; exact h
 | cons v vs ih => intro u j h; exact ih (j + 1) (h.setCell (p := ⟨B, j, none⟩) hN v)
theorem size_fill {B : Nat} (vs : List Value) : ∀ {u : World} (j : Nat), (fill u B j vs).heap.size = u.heap.size := by
 induction vs with
 | nil => intro u j; rfl
 | cons v vs ih => intro u j; exact (ih (j + 1)).trans (by simp)
end Go.Proofs.YtpjpckmfehfniaaGreatDoor.M
namespace Go.Proofs.YtpjpckmfehfniaaGreatDoor.M
open Go.RowKit
structure T6 where
 over : Bool
 cd : Int
 tx : ByteArray
 has : Bool
 nm : ByteArray
 st : Int
def t6z : T6 := ⟨false, 0, ⟨#[]⟩, false, ⟨#[]⟩, 0⟩
def T6.le (x : T6) (B : Nat) : Prop := x.tx.size ≤ B ∧ x.nm.size ≤ B
structure G16 where
 kd : Int
 to : Int
 fr : Int
 ep : Int
 ed : Int
 km : M3
 ls : List L4
 ct : Int
 tn : T6
def g16z : G16 := ⟨0, 0, 0, 0, 0, m3z, [], 0, t6z⟩
def G16.le (x : G16) (B : Nat) : Prop := x.km.le B ∧ (x.ls.length ≤ B ∧ ∀ i, (x.ls.getD i l4z).le B) ∧ x.tn.le B
structure W19 where
 no : Int
 up : Bool
 has : Bool
 of : G16
set_option maxHeartbeats 1000000 in
theorem c93 (x : T6) (l : Int) (w : World) (hs : x.le 9223372036854775807) (h0 : 0 ≤ l) (h1 : l ≤ 1048576) :
 Calls Tryz.prog 93 #[.agg #[.bool x.over, .int .i64 x.cd, .string x.tx, .bool x.has, .string x.nm, .int .i64 x.st], .int .i64 l] w fun e w' => (∃ r : Int, e = .returned (.int .i64 r) ∧ (0 ≤ r → x.le 1048576 ∧ r ≤ 1048576)) ∧ Below w.heap.size w w' := by
 obtain ⟨s1, s2⟩ := hs
 have hB0 : ∀ o, Below w.heap.size w (w.alloc o) := fun o => (Below.refl _ _).alloc (Nat.le_refl _) _
 go_enter Tryz.func93, Tryz.ntmps93
 go_wp2_with fail
 refine (c72 x.cd x.tx l _ s1 h0 h1).mono ?_
 rintro e w1 ⟨⟨r, rfl, hr⟩, hb1⟩
 have hB1 : Below w.heap.size w w1 := (hB0 _).trans (hb1.mono (by simp))
 have k4 : w1.cell? ⟨w.heap.size, 4, none⟩ = some (.string x.nm) := (hb1.cell (p := ⟨w.heap.size, 4, none⟩) (by simp)).trans (by simp [go_sem])
 clear hb1
 by_cases hn : 0 ≤ r
 · obtain ⟨hx, hr'⟩ := hr hn
   clear hr
   by_cases h2 : r < x.nm.size
   · go_wp2
     go_ret
     exact ⟨⟨-1, rfl, fun h => by omega⟩, hB1⟩
   · go_wp2
     go_ret
     exact ⟨⟨_, rfl, fun h => ⟨⟨hx, by omega⟩, by omega⟩⟩, hB1⟩
 · clear hr
   go_wp2
   go_ret
   exact ⟨⟨-1, rfl, fun h => by omega⟩, hB1⟩
set_option maxHeartbeats 1000000 in
theorem c44 (x : G16) (ai : Option Addr) (ci : Nat) (l : Int) (w : World) (hs : x.le 9223372036854775807) (h0 : 0 ≤ l) (h1 : l ≤ 1048576) (hat : LksAt w ai x.ls) :
 Calls Tryz.prog 44 #[.agg #[.int .i64 x.kd, .int .i64 x.to, .int .i64 x.fr, .int .i64 x.ep, .int .i64 x.ed, .string x.km.nm, .string x.km.tl, .string x.km.ar, .slice ai x.ls.length ci, .int .i64 x.ct, .bool x.tn.over, .int .i64 x.tn.cd, .string x.tn.tx, .bool x.tn.has, .string x.tn.nm, .int .i64 x.tn.st], .int .i64 l] w fun e w' => (∃ r : Int, e = .returned (.int .i64 r) ∧ (0 ≤ r → x.le 1048576 ∧ r ≤ 1048576)) ∧ Below w.heap.size w w' := by
 obtain ⟨s1, ⟨s2, s3⟩, s4⟩ := hs
 have HA : Hid (LksAt w ai x.ls) := hat
 have hB0 : ∀ o, Below w.heap.size w (w.alloc o) := fun o => (Below.refl _ _).alloc (Nat.le_refl _) _
 clear hat
 go_enter Tryz.func44, Tryz.ntmps44
 go_wp2_with fail
 refine (c6 x.km l _ s1 h0 h1).mono ?_
 rintro e w1 ⟨⟨r, rfl, hr⟩, hb1⟩
 have hx1 : Below (w.heap.size + 1) (w.alloc (.cells #[.int .i64 x.kd, .int .i64 x.to, .int .i64 x.fr, .int .i64 x.ep, .int .i64 x.ed, .string x.km.nm, .string x.km.tl, .string x.km.ar, .slice ai x.ls.length ci, .int .i64 x.ct, .bool x.tn.over, .int .i64 x.tn.cd, .string x.tn.tx, .bool x.tn.has, .string x.tn.nm, .int .i64 x.tn.st] 43)) w1 := by have h := hb1; simp at h; exact h
 have hB1 : Below w.heap.size w w1 := (hB0 _).trans (hx1.mono (by omega))
 have hz1 : w.heap.size < w1.heap.size := by have := hx1.size; simp at this; omega
 have Z := (blk_new w [.int .i64 x.kd, .int .i64 x.to, .int .i64 x.fr, .int .i64 x.ep, .int .i64 x.ed, .string x.km.nm, .string x.km.tl, .string x.km.ar, .slice ai x.ls.length ci, .int .i64 x.ct, .bool x.tn.over, .int .i64 x.tn.cd, .string x.tn.tx, .bool x.tn.has, .string x.tn.nm, .int .i64 x.tn.st] 43).below hx1 (Nat.lt_succ_self _)
 clear hb1 hx1
 by_cases hn : 0 ≤ r
 · obtain ⟨hx, hr'⟩ := hr hn
   have k8 := Z 8 _ rfl
   clear hr
   go_wp2_with fail
   refine (c7 ai ci x.ls r w1 hn hr' s3 s2 (lks_below HA.out hB1)).mono ?_
   rintro e w2 ⟨⟨r2, rfl, hr2⟩, hb2⟩
   have hB2 : Below w.heap.size w w2 := hB1.trans (hb2.mono hB1.size)
   have Z2 := Z.below hb2 hz1
   clear hb2 k8 Z
   by_cases hn2 : 0 ≤ r2
   · obtain ⟨hx2, hx3, hr2'⟩ := hr2 hn2
     have k10 := Z2 10 _ rfl
     have k11 := Z2 11 _ rfl
     have k12 := Z2 12 _ rfl
     have k13 := Z2 13 _ rfl
     have k14 := Z2 14 _ rfl
     have k15 := Z2 15 _ rfl
     clear hr2 Z2
     go_wp2_with fail
     refine (c93 x.tn r2 w2 s4 hn2 hr2').mono ?_
     rintro e w3 ⟨⟨r3, rfl, hr3⟩, hb3⟩
     have hB3 : Below w.heap.size w w3 := hB2.trans (hb3.mono hB2.size)
     by_cases hn3 : 0 ≤ r3
     · obtain ⟨hx4, hr3'⟩ := hr3 hn3
       clear hr3
       go_wp2
       go_ret
       exact ⟨⟨_, rfl, fun h => ⟨⟨hx, ⟨hx2, hx3⟩, hx4⟩, hr3'⟩⟩, hB3⟩
     · clear hr3
       go_wp2
       go_ret
       exact ⟨⟨-1, rfl, fun h => by omega⟩, hB3⟩
   · clear hr2
     go_wp2
     go_ret
     exact ⟨⟨-1, rfl, fun h => by omega⟩, hB2⟩
 · clear hr
   go_wp2
   go_ret
   exact ⟨⟨-1, rfl, fun h => by omega⟩, hB1⟩
set_option maxHeartbeats 1000000 in
theorem c14 (x : W19) (ai : Option Addr) (ci : Nat) (l : Int) (w : World) (hs : x.of.le 9223372036854775807) (h0 : 0 ≤ l) (h1 : l ≤ 1048576) (hat : LksAt w ai x.of.ls) :
 Calls Tryz.prog 14 #[.agg #[.int .i64 x.no, .bool x.up, .bool x.has, .int .i64 x.of.kd, .int .i64 x.of.to, .int .i64 x.of.fr, .int .i64 x.of.ep, .int .i64 x.of.ed, .string x.of.km.nm, .string x.of.km.tl, .string x.of.km.ar, .slice ai x.of.ls.length ci, .int .i64 x.of.ct, .bool x.of.tn.over, .int .i64 x.of.tn.cd, .string x.of.tn.tx, .bool x.of.tn.has, .string x.of.tn.nm, .int .i64 x.of.tn.st], .int .i64 l] w fun e w' => (∃ r : Int, e = .returned (.int .i64 r) ∧ (0 ≤ r → x.of.le 1048576 ∧ r ≤ 1048576)) ∧ Below w.heap.size w w' := by
 have HA : Hid (LksAt w ai x.of.ls) := hat
 have hB0 : ∀ o, Below w.heap.size w (w.alloc o) := fun o => (Below.refl _ _).alloc (Nat.le_refl _) _
 clear hat
 go_enter Tryz.func14, Tryz.ntmps14
 go_wp2_with fail
 refine (c44 x.of ai ci l _ hs h0 h1 (lks_below HA.out (hB0 _))).mono ?_
 rintro e w1 ⟨⟨r, rfl, hr⟩, hb1⟩
 have hB1 : Below w.heap.size w w1 := (hB0 _).trans (hb1.mono (by simp))
 clear hb1
 by_cases hn : 0 ≤ r
 · have hr' := hr hn
   clear hr
   go_wp2
   go_ret
   exact ⟨⟨_, rfl, fun h => hr'⟩, hB1⟩
 · clear hr
   go_wp2
   go_ret
   exact ⟨⟨-1, rfl, fun h => by omega⟩, hB1⟩
end Go.Proofs.YtpjpckmfehfniaaGreatDoor.M
namespace Go.Proofs.YtpjpckmfehfniaaGreatDoor.M
open Go.RowKit
theorem lks_fill {G B : Nat} {is : List L4} (hne : B ≠ G) (vs : List Value) : ∀ {u : World} (j : Nat), LksAt u (some ⟨G, 0, none⟩) is → LksAt (fill u B j vs) (some ⟨G, 0, none⟩) is := by
 induction vs with
 | nil => intro u j h; exact h
 | cons v vs ih => intro u j h; exact ih (j + 1) (lks_set h (fun b off e _ => by injection e with e; injection e with e _; show B ≠ b; omega))
set_option maxHeartbeats 2000000 in
theorem c94 (x : T6) (w : World) :
 Calls Tryz.prog 94 #[.agg #[.bool x.over, .int .i64 x.cd, .string x.tx, .bool x.has, .string x.nm, .int .i64 x.st]] w fun e w' => e = .returned (.agg #[.bool x.over, .int .i64 x.cd, .string x.tx, .bool x.has, .string x.nm, .int .i64 x.st]) ∧ Below w.heap.size w w' := by
 have hB0 : Below w.heap.size w (((w.alloc (.cells #[.bool x.over, .int .i64 x.cd, .string x.tx, .bool x.has, .string x.nm, .int .i64 x.st] 41)).alloc (.cells #[.bool false, .int .i64 0, .string ⟨#[]⟩, .bool false, .string ⟨#[]⟩, .int .i64 0] 30)).alloc (.cells #[.bool x.over, .int .i64 0, .string ⟨#[]⟩, .bool false, .string ⟨#[]⟩, .int .i64 0] 30)) := (((Below.refl _ _).alloc (Nat.le_refl _) _).alloc (by simp) _).alloc (by simp; omega) _
 have h75 := c86 x.cd x.tx (((w.alloc (.cells #[.bool x.over, .int .i64 x.cd, .string x.tx, .bool x.has, .string x.nm, .int .i64 x.st] 41)).alloc (.cells #[.bool false, .int .i64 0, .string ⟨#[]⟩, .bool false, .string ⟨#[]⟩, .int .i64 0] 30)).alloc (.cells #[.bool x.over, .int .i64 0, .string ⟨#[]⟩, .bool false, .string ⟨#[]⟩, .int .i64 0] 30))
 go_enter Tryz.func94, Tryz.ntmps94
 go_wp2_with fail
 refine h75.mono ?_
 rintro e w1 ⟨rfl, hb1⟩
 have hx1 : Below (w.heap.size + 3) (((w.alloc (.cells #[.bool x.over, .int .i64 x.cd, .string x.tx, .bool x.has, .string x.nm, .int .i64 x.st] 41)).alloc (.cells #[.bool false, .int .i64 0, .string ⟨#[]⟩, .bool false, .string ⟨#[]⟩, .int .i64 0] 30)).alloc (.cells #[.bool x.over, .int .i64 0, .string ⟨#[]⟩, .bool false, .string ⟨#[]⟩, .int .i64 0] 30)) w1 := by have h := hb1; simp at h; exact h
 have hB1 : Below w.heap.size w w1 := hB0.trans (hx1.mono (by omega))
 have hz1 : w.heap.size + 1 + 1 < w1.heap.size := by have := hx1.size; simp at this; omega
 have ZA : BlkAt w1 w.heap.size [.bool x.over, .int .i64 x.cd, .string x.tx, .bool x.has, .string x.nm, .int .i64 x.st] := fun j v h => (hx1.cell (p := ⟨w.heap.size, j, none⟩) (by show w.heap.size < w.heap.size + 3; omega)).trans (by simp [go_sem, h])
 have ZR : BlkAt w1 (w.heap.size + 1) [.bool false, .int .i64 0, .string ⟨#[]⟩, .bool false, .string ⟨#[]⟩, .int .i64 0] := fun j v h => (hx1.cell (p := ⟨w.heap.size + 1, j, none⟩) (by show w.heap.size + 1 < w.heap.size + 3; omega)).trans (by simp [go_sem, h])
 have ZO : BlkAt w1 (w.heap.size + 1 + 1) [.bool x.over, .int .i64 0, .string ⟨#[]⟩, .bool false, .string ⟨#[]⟩, .int .i64 0] := fun j v h => (hx1.cell (p := ⟨w.heap.size + 1 + 1, j, none⟩) (by show w.heap.size + 1 + 1 < w.heap.size + 3; omega)).trans (by simp [go_sem, h])
 have fR : OpnAt w1 (w.heap.size + 1) := fun j => (hx1.frozen (p := ⟨w.heap.size + 1, j, none⟩) (by show w.heap.size + 1 < w.heap.size + 3; omega)).trans (by simp [go_sem])
 have fO : OpnAt w1 (w.heap.size + 1 + 1) := fun j => (hx1.frozen (p := ⟨w.heap.size + 1 + 1, j, none⟩) (by show w.heap.size + 1 + 1 < w.heap.size + 3; omega)).trans (by simp [go_sem])
 clear hb1 hx1 hB0
 have a3 := ZA 3 _ rfl
 have a4 := ZA 4 _ rfl
 have a5 := ZA 5 _ rfl
 have r0 := ZR 0 _ rfl
 have r1 := ZR 1 _ rfl
 have r2 := ZR 2 _ rfl
 have r3 := ZR 3 _ rfl
 have r4 := ZR 4 _ rfl
 have r5 := ZR 5 _ rfl
 have o0 := ZO 0 _ rfl
 have o1 := ZO 1 _ rfl
 have o2 := ZO 2 _ rfl
 have o3 := ZO 3 _ rfl
 have o4 := ZO 4 _ rfl
 have o5 := ZO 5 _ rfl
 have gR : ∀ j, _ := fR
 have gO : ∀ j, _ := fO
 have HR : Hid (BlkAt w1 (w.heap.size + 1) [.bool false, .int .i64 0, .string ⟨#[]⟩, .bool false, .string ⟨#[]⟩, .int .i64 0]) := ZR
 clear h75 ZA ZR ZO fR fO
 go_wp2
 have F : BlkAt (fill (fill w1 (w.heap.size + 1 + 1) 1 [.int .i64 x.cd, .string x.tx, .bool x.has, .string x.nm, .int .i64 x.st]) (w.heap.size + 1) 0 [.bool x.over, .int .i64 x.cd, .string x.tx, .bool x.has, .string x.nm, .int .i64 x.st]) (w.heap.size + 1) [.bool x.over, .int .i64 x.cd, .string x.tx, .bool x.has, .string x.nm, .int .i64 x.st] := BlkAt.fill [.bool x.over, .int .i64 x.cd, .string x.tx, .bool x.has, .string x.nm, .int .i64 x.st] [] [.bool false, .int .i64 0, .string ⟨#[]⟩, .bool false, .string ⟨#[]⟩, .int .i64 0] [] 0 (BlkAt.fillO (by omega) [.int .i64 x.cd, .string x.tx, .bool x.has, .string x.nm, .int .i64 x.st] 1 HR.out) rfl rfl
 have hBF : Below w.heap.size w (fill (fill w1 (w.heap.size + 1 + 1) 1 [.int .i64 x.cd, .string x.tx, .bool x.has, .string x.nm, .int .i64 x.st]) (w.heap.size + 1) 0 [.bool x.over, .int .i64 x.cd, .string x.tx, .bool x.has, .string x.nm, .int .i64 x.st]) := below_fill (by omega) _ _ (below_fill (by omega) _ _ hB1)
 change bodyPost Tryz.prog Tryz.f94 _ Exit.ret _ (fill (fill w1 (w.heap.size + 1 + 1) 1 [.int .i64 x.cd, .string x.tx, .bool x.has, .string x.nm, .int .i64 x.st]) (w.heap.size + 1) 0 [.bool x.over, .int .i64 x.cd, .string x.tx, .bool x.has, .string x.nm, .int .i64 x.st])
 generalize (fill (fill w1 (w.heap.size + 1 + 1) 1 [.int .i64 x.cd, .string x.tx, .bool x.has, .string x.nm, .int .i64 x.st]) (w.heap.size + 1) 0 [.bool x.over, .int .i64 x.cd, .string x.tx, .bool x.has, .string x.nm, .int .i64 x.st]) = Q at *
 have f0 := F 0 _ rfl
 have f1 := F 1 _ rfl
 have f2 := F 2 _ rfl
 have f3 := F 3 _ rfl
 have f4 := F 4 _ rfl
 have f5 := F 5 _ rfl
 refine bodyPost_ret (v := .agg #[.bool x.over, .int .i64 x.cd, .string x.tx, .bool x.has, .string x.nm, .int .i64 x.st]) (by simp [results, Tryz.results94, go_sem, f0, f1, f2, f3, f4, f5]) rfl ⟨rfl, hBF⟩
end Go.Proofs.YtpjpckmfehfniaaGreatDoor.M
namespace Go.Proofs.YtpjpckmfehfniaaGreatDoor.M
open Go.RowKit
theorem fill_eq (B : Nat) (vs : List Value) : ∀ (u : World) (j : Nat), fill u B j vs = u.setCells B j vs := by
 induction vs with
 | nil => intro u j; rfl
 | cons v vs ih => intro u j; exact ih _ _
theorem adr_add (B o j : Nat) : (⟨B, o, none⟩ : Addr).add j = ⟨B, o + j, none⟩ := by unfold Addr.add; split <;> simp_all
section
variable {P : Program}
theorem run_loadVar_blk (w : World) (B : Nat) (ty : TypeId) (cs : List Value) (d : TypeDesc) (hc : BlkAt w B cs)
 (hu : P.underlying ty = some d) (hd : (match d with | .struct _ | .array _ _ => true | _ => false) = true) (hi : (P.info? ty).map (·.size) = some cs.length) :
 (loadVar ty ⟨B, 0, none⟩).run P w = .ok (.agg cs.toArray) w := by
 have hl : (loadCells ⟨B, 0, none⟩ cs.length).run P w = .ok cs.toArray w :=
  run_loadCells_list (P := P) w ⟨B, 0, none⟩ cs (fun j v hv => by rw [adr_add, Nat.zero_add]; exact hc j v hv)
 cases hq : P.info? ty with
 | none => simp [hq] at hi
 | some i =>
   have hs : i.size = cs.length := by simpa [hq] using hi
   have hagg : (isAgg ty).run P w = .ok true w := by
    unfold isAgg
    rw [Sem.run_bind, run_underlying hu w]
    cases d <;> simp_all
   simp [loadVar, Sem.run_bind, hagg, sizeOf, typeInfo, hq, hs, hl]
theorem wpList_load_blk {ops : Array Oper} {rest : List Oper} {o : Oper} {a : Act} {w : World} {Q : Exit → Act → World → Prop} (hgd : o.guard = none) (ty : TypeId) (x : Operand) (ho : o.op = .load ty x)
 (B : Nat) (hx : a.eval x = .pointer (some ⟨B, 0, none⟩)) (cs : List Value) (d : TypeDesc) (hc : BlkAt w B cs)
 (hu : P.underlying ty = some d) (hd : (match d with | .struct _ | .array _ _ => true | _ => false) = true) (hi : (P.info? ty).map (·.size) = some cs.length)
 (h : wpList P ops Q rest (a.put o.dst (.agg cs.toArray)) w) : wpList P ops Q (o :: rest) a w := by
 refine wpList_plain hgd fun K hK => ?_
 unfold Oper.wp execOp
 simp only [ho, hx, Instr.loadAt, Instr.sureAddr, Sem.run_bind, Sem.run_pure, Result.andThen_ok, run_loadVar_blk w B ty cs d hc hu hd hi]
 exact hK _ _ h
theorem run_storeVar_blk (w : World) (B j : Nat) (ty : TypeId) (vs : List Value) (hc : ∀ i, i < vs.length → (w.cell? ⟨B, j + i, none⟩).isSome = true) (hf : OpnAt w B) (h1 : ∀ v ∈ vs, v.oneCell' = true)
 (hi : (P.info? ty).map (·.size) = some vs.length) :
 (storeVar ty ⟨B, j, none⟩ (.agg vs.toArray)).run P w = .ok () (fill w B j vs) := by
 have hs := run_storeCells_cells (P := P) B j vs 0 w (fun i h => by simpa using hc i h) (fun i _ => hf _) h1
 rw [Nat.add_zero, ← fill_eq] at hs
 cases hq : P.info? ty with
 | none => simp [hq] at hi
 | some i =>
   have hz : i.size = vs.length := by simpa [hq] using hi
   simp [storeVar, Value.cells, Sem.run_bind, sizeOf, typeInfo, hq, hz, hs]
theorem wpList_store_blk {ops : Array Oper} {rest : List Oper} {o : Oper} {a : Act} {w : World} {Q : Exit → Act → World → Prop} (hgd : o.guard = none) (ty : TypeId) (x y : Operand) (ho : o.op = .store ty x y)
 (B j : Nat) (hx : a.eval x = .pointer (some ⟨B, j, none⟩)) (vs : List Value) (hy : a.eval y = .agg vs.toArray) (hc : ∀ i, i < vs.length → (w.cell? ⟨B, j + i, none⟩).isSome = true) (hf : OpnAt w B) (h1 : ∀ v ∈ vs, v.oneCell' = true)
 (hi : (P.info? ty).map (·.size) = some vs.length) (hdst : o.dst = none)
 (h : wpList P ops Q rest a (fill w B j vs)) : wpList P ops Q (o :: rest) a w := by
 refine wpList_plain hgd fun K hK => ?_
 unfold Oper.wp execOp
 simp only [ho, hx, hy, Instr.storeAt, Instr.sureAddr, Sem.run_bind, Sem.run_pure, Result.andThen_ok, run_storeVar_blk w B j ty vs hc hf h1 hi]
 first
  | exact hK _ _ h
  | (simp only [Oper.upon]; exact hK _ _ h)
  | (simp only [Oper.upon, hdst]; exact hK _ _ h)
theorem results_blk {fn : Func} {p : Tmp} {ty : TypeId} (h : fn.results = #[.cell p ty]) (tmps : Array Value) (w : World) (B : Nat) (cs : List Value) (d : TypeDesc)
 (hp : tmps.getD p undef = .pointer (some ⟨B, 0, none⟩)) (hc : BlkAt w B cs)
 (hu : P.underlying ty = some d) (hd : (match d with | .struct _ | .array _ _ => true | _ => false) = true) (hi : (P.info? ty).map (·.size) = some cs.length) :
 (results fn tmps).run P w = .ok (.agg cs.toArray) w := by
 have hp' : tmps[p]?.getD undef = .pointer (some ⟨B, 0, none⟩) := by simpa using hp
 simp [results, h, hp', asAddr, run_loadVar_blk w B ty cs d hc hu hd hi]
end
end Go.Proofs.YtpjpckmfehfniaaGreatDoor.M
