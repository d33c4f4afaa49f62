import Derived.Test.YtpjpckmfehfniaaGreatDoorZC22
import Derived.Test.YtpjpckmfehfniaaGreatDoorZC36
import Derived.Test.YtpjpckmfehfniaaGreatDoorZC25
import Derived.WalkKit
import Derived.Deep.Slices
import Derived.Deep.Strs
import Derived.ChangeArms
import Derived.OpenVars
import Derived.ProofKit
import Derived.OpenShut
import Derived.ChangeOld
import Derived.LaidMore
import Derived.LaidOnce
import Derived.LaidHandle
namespace Go.Proofs.YtpjpckmfehfniaaGreatDoor.M
open Go.RowKit
set_option maxHeartbeats 2000000 in
theorem c12 (x : T6) (w : World) :
 Calls Tryz.prog 12 #[.agg #[.bool x.over, .int .i64 x.cd, .string x.tx, .bool x.has, .string x.nm, .int .i64 x.st], .agg #[.bool x.over, .int .i64 x.cd, .string x.tx, .bool x.has, .string x.nm, .int .i64 x.st]] w fun e w' => e = .returned (.bool true) ∧ Below w.heap.size w w' := by
 have hB0 : ∀ o p, Below w.heap.size w ((w.alloc o).alloc p) := fun o p => ((Below.refl _ _).alloc (Nat.le_refl _) _).alloc (by simp) _
 go_enter Tryz.func12, Tryz.ntmps12
 go_wp2_with fail
 refine (c42 x.cd x.tx _).mono ?_
 rintro e w1 ⟨rfl, hb1⟩
 have hx1 : Below (w.heap.size + 2) ((w.alloc (.cells #[.bool x.over, .int .i64 x.cd, .string x.tx, .bool x.has, .string x.nm, .int .i64 x.st] 30)).alloc (.cells #[.bool x.over, .int .i64 x.cd, .string x.tx, .bool x.has, .string x.nm, .int .i64 x.st] 30)) w1 := by have h := hb1; simp at h; exact h
 have hB1 : Below w.heap.size w w1 := (hB0 _ _).trans (hx1.mono (by omega))
 have hz1 : w.heap.size + 1 < w1.heap.size := by have := hx1.size; simp at this; omega
 have ZA : BlkAt w1 w.heap.size [.bool x.over, .int .i64 x.cd, .string x.tx, .bool x.has, .string x.nm, .int .i64 x.st] := fun j v h => (hx1.cell (p := ⟨w.heap.size, j, none⟩) (by show w.heap.size < w.heap.size + 2; omega)).trans (by simp [go_sem, h])
 have ZB : BlkAt w1 (w.heap.size + 1) [.bool x.over, .int .i64 x.cd, .string x.tx, .bool x.has, .string x.nm, .int .i64 x.st] := fun j v h => (hx1.cell (p := ⟨w.heap.size + 1, j, none⟩) (by show w.heap.size + 1 < w.heap.size + 2; omega)).trans (by simp [go_sem, h])
 clear hb1 hx1
 have a3 := ZA 3 _ rfl
 have b3 := ZB 3 _ rfl
 have a4 := ZA 4 _ rfl
 have b4 := ZB 4 _ rfl
 have a5 := ZA 5 _ rfl
 have b5 := ZB 5 _ rfl
 clear ZA ZB
 go_wp2
 go_ret
 exact ⟨rfl, hB1⟩
set_option maxHeartbeats 4000000 in
theorem c50 (x : G16) (ai bi : Option Addr) (ci di : Nat) (w : World) (hl : x.ls.length ≤ 1048576) (hat : LksAt w ai x.ls) (hat' : LksAt w bi x.ls) :
 Calls Tryz.prog 50 #[.agg #[.int .i64 x.kd, .int .i64 x.to, .int .i64 x.fr, .int .i64 x.ep, .int .i64 x.ed, .string x.km.nm, .string x.km.tl, .string x.km.ar, .slice ai x.ls.length ci, .int .i64 x.ct, .bool x.tn.over, .int .i64 x.tn.cd, .string x.tn.tx, .bool x.tn.has, .string x.tn.nm, .int .i64 x.tn.st], .agg #[.int .i64 x.kd, .int .i64 x.to, .int .i64 x.fr, .int .i64 x.ep, .int .i64 x.ed, .string x.km.nm, .string x.km.tl, .string x.km.ar, .slice bi x.ls.length di, .int .i64 x.ct, .bool x.tn.over, .int .i64 x.tn.cd, .string x.tn.tx, .bool x.tn.has, .string x.tn.nm, .int .i64 x.tn.st]] w fun e w' => e = .returned (.bool true) ∧ Below w.heap.size w w' := by
 have HA : Hid (LksAt w ai x.ls) := hat
 have HA' : Hid (LksAt w bi x.ls) := hat'
 clear hat hat'
 have hB0 : ∀ o p, Below w.heap.size w ((w.alloc o).alloc p) := fun o p => ((Below.refl _ _).alloc (Nat.le_refl _) _).alloc (by simp) _
 go_enter Tryz.func50, Tryz.ntmps50
 go_wp2_with fail
 refine (c97 x.km _).mono ?_
 rintro e w1 ⟨rfl, hb1⟩
 have hx1 : Below (w.heap.size + 2) ((w.alloc (.cells #[.int .i64 x.kd, .int .i64 x.to, .int .i64 x.fr, .int .i64 x.ep, .int .i64 x.ed, .string x.km.nm, .string x.km.tl, .string x.km.ar, .slice ai x.ls.length ci, .int .i64 x.ct, .bool x.tn.over, .int .i64 x.tn.cd, .string x.tn.tx, .bool x.tn.has, .string x.tn.nm, .int .i64 x.tn.st] 48)).alloc (.cells #[.int .i64 x.kd, .int .i64 x.to, .int .i64 x.fr, .int .i64 x.ep, .int .i64 x.ed, .string x.km.nm, .string x.km.tl, .string x.km.ar, .slice bi x.ls.length di, .int .i64 x.ct, .bool x.tn.over, .int .i64 x.tn.cd, .string x.tn.tx, .bool x.tn.has, .string x.tn.nm, .int .i64 x.tn.st] 48)) w1 := by have h := hb1; simp at h; exact h
 have hB1 : Below w.heap.size w w1 := (hB0 _ _).trans (hx1.mono (by omega))
 have hz1 : w.heap.size + 1 < w1.heap.size := by have := hx1.size; simp at this; omega
 have ZA : BlkAt w1 w.heap.size [.int .i64 x.kd, .int .i64 x.to, .int .i64 x.fr, .int .i64 x.ep, .int .i64 x.ed, .string x.km.nm, .string x.km.tl, .string x.km.ar, .slice ai x.ls.length ci, .int .i64 x.ct, .bool x.tn.over, .int .i64 x.tn.cd, .string x.tn.tx, .bool x.tn.has, .string x.tn.nm, .int .i64 x.tn.st] := fun j v h => (hx1.cell (p := ⟨w.heap.size, j, none⟩) (by show w.heap.size < w.heap.size + 2; omega)).trans (by simp [go_sem, h])
 have ZB : BlkAt w1 (w.heap.size + 1) [.int .i64 x.kd, .int .i64 x.to, .int .i64 x.fr, .int .i64 x.ep, .int .i64 x.ed, .string x.km.nm, .string x.km.tl, .string x.km.ar, .slice bi x.ls.length di, .int .i64 x.ct, .bool x.tn.over, .int .i64 x.tn.cd, .string x.tn.tx, .bool x.tn.has, .string x.tn.nm, .int .i64 x.tn.st] := fun j v h => (hx1.cell (p := ⟨w.heap.size + 1, j, none⟩) (by show w.heap.size + 1 < w.heap.size + 2; omega)).trans (by simp [go_sem, h])
 clear hb1 hx1
 have a8 := ZA 8 _ rfl
 have b8 := ZB 8 _ rfl
 go_wp2_with fail
 clear a8 b8
 refine (c13 ai bi ci di x.ls w1 hl (lks_below HA.out hB1) (lks_below HA'.out hB1)).mono ?_
 rintro e w2 ⟨rfl, hb2⟩
 have hB2 : Below w.heap.size w w2 := hB1.trans (hb2.mono hB1.size)
 have hz2 : w.heap.size + 1 < w2.heap.size := Nat.lt_of_lt_of_le hz1 hb2.size
 have ZA2 := ZA.below hb2 (by omega)
 have ZB2 := ZB.below hb2 hz1
 clear hb2 ZA ZB
 have a9 := ZA2 9 _ rfl
 have b9 := ZB2 9 _ rfl
 have a10 := ZA2 10 _ rfl
 have b10 := ZB2 10 _ rfl
 have a11 := ZA2 11 _ rfl
 have b11 := ZB2 11 _ rfl
 have a12 := ZA2 12 _ rfl
 have b12 := ZB2 12 _ rfl
 have a13 := ZA2 13 _ rfl
 have b13 := ZB2 13 _ rfl
 have a14 := ZA2 14 _ rfl
 have b14 := ZB2 14 _ rfl
 have a15 := ZA2 15 _ rfl
 have b15 := ZB2 15 _ rfl
 go_wp2_with fail
 refine (c12 x.tn w2).mono ?_
 rintro e w3 ⟨rfl, hb3⟩
 have hB3 : Below w.heap.size w w3 := hB2.trans (hb3.mono hB2.size)
 go_wp2
 go_ret
 exact ⟨rfl, hB3⟩
set_option maxHeartbeats 4000000 in
theorem c18 (x : W19) (ai bi : Option Addr) (ci di : Nat) (w : World) (hl : x.of.ls.length ≤ 1048576) (hat : LksAt w ai x.of.ls) (hat' : LksAt w bi x.of.ls) :
 Calls Tryz.prog 18 #[.agg #[.int .i64 x.no, .bool x.up, .bool x.has, .int .i64 x.of.kd, .int .i64 x.of.to, .int .i64 x.of.fr, .int .i64 x.of.ep, .int .i64 x.of.ed, .string x.of.km.nm, .string x.of.km.tl, .string x.of.km.ar, .slice ai x.of.ls.length ci, .int .i64 x.of.ct, .bool x.of.tn.over, .int .i64 x.of.tn.cd, .string x.of.tn.tx, .bool x.of.tn.has, .string x.of.tn.nm, .int .i64 x.of.tn.st], .agg #[.int .i64 x.no, .bool x.up, .bool x.has, .int .i64 x.of.kd, .int .i64 x.of.to, .int .i64 x.of.fr, .int .i64 x.of.ep, .int .i64 x.of.ed, .string x.of.km.nm, .string x.of.km.tl, .string x.of.km.ar, .slice bi x.of.ls.length di, .int .i64 x.of.ct, .bool x.of.tn.over, .int .i64 x.of.tn.cd, .string x.of.tn.tx, .bool x.of.tn.has, .string x.of.tn.nm, .int .i64 x.of.tn.st]] w fun e w' => e = .returned (.bool true) ∧ Below w.heap.size w w' := by
 have HA : Hid (LksAt w ai x.of.ls) := hat
 have HA' : Hid (LksAt w bi x.of.ls) := hat'
 clear hat hat'
 have hB0 : ∀ o p, Below w.heap.size w ((w.alloc o).alloc p) := fun o p => ((Below.refl _ _).alloc (Nat.le_refl _) _).alloc (by simp) _
 go_enter Tryz.func18, Tryz.ntmps18
 go_wp2_with fail
 refine (c50 x.of ai bi ci di _ hl (lks_below HA.out (hB0 _ _)) (lks_below HA'.out (hB0 _ _))).mono ?_
 rintro e w1 ⟨rfl, hb1⟩
 have hB1 : Below w.heap.size w w1 := (hB0 _ _).trans (hb1.mono (by simp; omega))
 go_wp2
 go_ret
 exact ⟨rfl, hB1⟩
end Go.Proofs.YtpjpckmfehfniaaGreatDoor.M
namespace Go.Proofs.YtpjpckmfehfniaaGreatDoor.M
open Go.RowKit
theorem step_store_blk {P : Program} {ops : Array Oper} {o : Oper} {a : Act} {w : World} {K : Act → World → Prop} {Q : Exit → Act → World → Prop} {E : Prop} (hg : o.guard = none) (ty : TypeId) (x y : Operand) (ho : o.op = .store ty x y)
 (B j : Nat) (hx : a.eval x = .pointer (some ⟨B, j, none⟩)) (vs : List Value) (hy : a.eval y = .agg vs.toArray) (hc : ∀ i, i < vs.length → (w.cell? ⟨B, j + i, none⟩).isSome = true) (hf : OpnAt w B) (h1 : ∀ v ∈ vs, v.oneCell' = true)
 (hi : (P.info? ty).map (·.size) = some vs.length) (hdst : o.dst = none) (h : K a (fill w B j vs)) :
 if Region.wanted o (yielded ops a.tmps) = true then Oper.wp P o a w K Q else E := by
 have hw : Region.wanted o (yielded ops a.tmps) = true := by simp [Region.wanted, hg]
 rw [if_pos hw]
 unfold Oper.wp execOp
 simp only [ho, hx, hy, Instr.storeAt, Instr.sureAddr, Sem.run_bind, Sem.run_pure, Result.andThen_ok, run_storeVar_blk w B j ty vs hc hf h1 hi]
 first
  | exact h
  | (simp only [Oper.upon]; exact h)
  | (simp only [Oper.upon, hdst]; exact h)
theorem load_exec {P : Program} {w : World} {ty : TypeId} {ad : Addr} {v : Value} (h : (loadVar ty ad).run P w = .ok v w) : ((Sem.run P (Instr.loadAt ty (.pointer (some ad))) w).andThen fun a w' => Result.ok (Next.value a) w') = .ok (.value v) w := by
 simp only [Instr.loadAt, Instr.sureAddr, Sem.run_bind, Sem.run_pure, Result.andThen_ok, h]
theorem wpList_load_blkW {P : Program} {ops : Array Oper} {rest : List Oper} {o : Oper} {a : Act} {w : World} {Q : Exit → Act → World → Prop} (hw : Region.wanted o (yielded ops a.tmps) = true) (ty : TypeId) (x : Operand) (ho : o.op = .load ty x)
 (B : Nat) (hx : a.eval x = .pointer (some ⟨B, 0, none⟩)) (cs : List Value) (d : TypeDesc) (hc : BlkAt w B cs)
 (hu : P.underlying ty = some d) (hd : (match d with | .struct _ | .array _ _ => true | _ => false) = true) (hi : (P.info? ty).map (·.size) = some cs.length)
 (h : wpList P ops Q rest (a.put o.dst (.agg cs.toArray)) w) : wpList P ops Q (o :: rest) a w := by
 refine wpList_step fun K hK => ?_
 rw [if_pos hw]
 unfold Oper.wp execOp
 simp only [ho, hx, Instr.loadAt, Instr.sureAddr, Sem.run_bind, Sem.run_pure, Result.andThen_ok, run_loadVar_blk w B ty cs d hc hu hd hi]
 exact hK _ _ h
theorem BlkAt.but {u u' : World} {B g : Nat} {vs : List Value} (h : BlkAt u B vs) (hb : But g u u') (hB : B < u.heap.size) (hne : B ≠ g) : BlkAt u' B vs := fun j v e => (hb.cell (p := ⟨B, j, none⟩) hB hne).trans (h j v e)
def LkB (u : World) (lo hi : Nat) (ao : Option Addr) (is : List L4) : Prop := is = [] ∨ ∃ g, ao = some ⟨g, 0, none⟩ ∧ lo ≤ g ∧ g < hi ∧ Open4 u g is.length ∧ LksAt u ao is
theorem lkb_of {u : World} {B : Nat} {ao : Option Addr} {is : List L4} (h : LkOwn u B ao is) : LkB u B u.heap.size ao is := by
 rcases h.own with h1 | ⟨g, h1, h2, h3⟩
 · exact .inl h1
 · exact .inr ⟨g, h1, h2, h3.1, h3, h.at'⟩
theorem lkb_lks {u : World} {lo hi : Nat} {ao : Option Addr} {is : List L4} (h : LkB u lo hi ao is) : LksAt u ao is := by
 rcases h with h | ⟨g, _, _, _, _, h⟩
 · exact .inl h
 · exact h
theorem lkb_below {u u' : World} {lo hi : Nat} {ao : Option Addr} {is : List L4} (h : LkB u lo hi ao is) (hb : Below u.heap.size u u') : LkB u' lo hi ao is :=
 h.imp id fun ⟨g, h1, h2, h3, h4, h5⟩ => ⟨g, h1, h2, h3, h4.below hb, lks_below h5 hb⟩
theorem lks_but {u u' : World} {g b : Nat} {is : List L4} (h : LksAt u (some ⟨b, 0, none⟩) is) (hb : But g u u') (hne : b ≠ g) : LksAt u' (some ⟨b, 0, none⟩) is := by
 rcases h with h | ⟨b', off, h1, h2, h3⟩
 · exact .inl h
 · injection h1 with h1; injection h1 with h1 h4; subst h1; subst h4
   refine .inr ⟨b, 0, rfl, Nat.lt_of_lt_of_le h2 hb.size, fun i hi => ?_⟩
   rw [hb.cell (by exact h2) hne, hb.cell (by exact h2) hne, hb.cell (by exact h2) hne, hb.cell (by exact h2) hne]
   exact h3 i hi
theorem lkg_open {u : World} {b : Nat} {is : List L4} (h : LkG u (some ⟨b, 0, none⟩) is) : Open4 u b is.length := by
 obtain ⟨_, b', e, h2⟩ := h
 injection e with e; injection e with e _; rw [e]; exact h2
theorem marks_but {K : Int} {u u' : World} {b g k : Nat} (h : MarksAt K u b k) (hlt : b < u.heap.size) (hb : But g u u') (hne : b ≠ g) : MarksAt K u' b k := by
 intro j hj
 rw [hb.cell (by exact hlt) hne, hb.cell (by exact hlt) hne, hb.cell (by exact hlt) hne, hb.cell (by exact hlt) hne]
 exact h j hj
theorem lkb_but {u u' : World} {lo hi g : Nat} {ao : Option Addr} {is : List L4} (h : LkB u lo hi ao is) (hb : But g u u') (hg : g < lo ∨ hi ≤ g) : LkB u' lo hi ao is := by
 rcases h with h | ⟨b, rfl, h2, h3, h4, h5⟩
 · exact .inl h
 · exact .inr ⟨b, rfl, h2, h3, open4_but h4 hb (by omega), lks_but h5 hb (by omega)⟩
end Go.Proofs.YtpjpckmfehfniaaGreatDoor.M
namespace Go.Proofs.YtpjpckmfehfniaaGreatDoor.M
open Go.ChangeShapes Go.WideShapes Go.ChangeAt Go.RowKit
set_option linter.unusedVariables false
theorem cells3 : Tryz.prog.cellsOf 3 = 1 := by kernel_rfl
theorem cells4 : Tryz.prog.cellsOf 4 = 1 := by kernel_rfl
theorem cells23 : Tryz.prog.cellsOf 23 = 3 := by kernel_rfl
theorem cells24 : Tryz.prog.cellsOf 24 = 1 := by kernel_rfl
theorem cells39 : Tryz.prog.cellsOf 39 = 2 := by kernel_rfl
theorem cells41 : Tryz.prog.cellsOf 41 = 6 := by kernel_rfl
theorem cells43 : Tryz.prog.cellsOf 43 = 16 := by kernel_rfl
theorem cells45 : Tryz.prog.cellsOf 45 = 19 := by kernel_rfl
theorem cells68 : Tryz.prog.cellsOf 68 = 4 := by kernel_rfl
theorem cells9' : Tryz.prog.cellsOf 9 = 1 := by kernel_rfl
theorem list2' {α : Type} {l : List α} (h : l.length = 2) : ∃ a0 a1, l = [a0, a1] := by
 match l, h with
 | [a0, a1], _ => exact ⟨a0, a1, rfl⟩
theorem list3' {α : Type} {l : List α} (h : l.length = 3) : ∃ a0 a1 a2, l = [a0, a1, a2] := by
 match l, h with
 | [a0, a1, a2], _ => exact ⟨a0, a1, a2, rfl⟩
theorem list4' {α : Type} {l : List α} (h : l.length = 4) : ∃ a0 a1 a2 a3, l = [a0, a1, a2, a3] := by
 match l, h with
 | [a0, a1, a2, a3], _ => exact ⟨a0, a1, a2, a3, rfl⟩
theorem list6' {α : Type} {l : List α} (h : l.length = 6) : ∃ a0 a1 a2 a3 a4 a5, l = [a0, a1, a2, a3, a4, a5] := by
 match l, h with
 | [a0, a1, a2, a3, a4, a5], _ => exact ⟨a0, a1, a2, a3, a4, a5, rfl⟩
theorem list16' {α : Type} {l : List α} (h : l.length = 16) : ∃ a0 a1 a2 a3 a4 a5 a6 a7 a8 a9 a10 a11 a12 a13 a14 a15, l = [a0, a1, a2, a3, a4, a5, a6, a7, a8, a9, a10, a11, a12, a13, a14, a15] := by
 match l, h with
 | [a0, a1, a2, a3, a4, a5, a6, a7, a8, a9, a10, a11, a12, a13, a14, a15], _ => exact ⟨a0, a1, a2, a3, a4, a5, a6, a7, a8, a9, a10, a11, a12, a13, a14, a15, rfl⟩
theorem list19' {α : Type} {l : List α} (h : l.length = 19) : ∃ a0 a1 a2 a3 a4 a5 a6 a7 a8 a9 a10 a11 a12 a13 a14 a15 a16 a17 a18, l = [a0, a1, a2, a3, a4, a5, a6, a7, a8, a9, a10, a11, a12, a13, a14, a15, a16, a17, a18] := by
 match l, h with
 | [a0, a1, a2, a3, a4, a5, a6, a7, a8, a9, a10, a11, a12, a13, a14, a15, a16, a17, a18], _ => exact ⟨a0, a1, a2, a3, a4, a5, a6, a7, a8, a9, a10, a11, a12, a13, a14, a15, a16, a17, a18, rfl⟩
theorem struct4 {H : Type} {enc : TypeId × Value → H} {P : Program} {w : World} {base : Nat} {spare : Nat → Bool} {held : Bool} {t : TypeId} {f0 f1 f2 f3 : Field} {fuel : Nat} {cs : List Value} {x : DataW H × List MemPlace} (ht : P.underlying t = some (.struct #[f0, f1, f2, f3])) (h : DataW.trod enc P w base spare held fuel t cs = some x) :
 ∃ y0 y1 y2 y3 n, cs.length = P.cellsOf t ∧ DataW.trod enc P w base spare held n f0.type ((cs.drop f0.offset).take (P.cellsOf f0.type)) = some y0 ∧ DataW.trod enc P w base spare held n f1.type ((cs.drop f1.offset).take (P.cellsOf f1.type)) = some y1 ∧ DataW.trod enc P w base spare held n f2.type ((cs.drop f2.offset).take (P.cellsOf f2.type)) = some y2 ∧ DataW.trod enc P w base spare held n f3.type ((cs.drop f3.offset).take (P.cellsOf f3.type)) = some y3 := by
 obtain ⟨xs, n, _, rfl, hl, hlen, hf⟩ := DataW.trod_struct ht h
 match xs, hlen with
 | [y0, y1, y2, y3], _ => exact ⟨y0, y1, y2, y3, n, hl, by simpa using hf 0 f0 rfl, by simpa using hf 1 f1 rfl, by simpa using hf 2 f2 rfl, by simpa using hf 3 f3 rfl⟩
theorem struct5 {H : Type} {enc : TypeId × Value → H} {P : Program} {w : World} {base : Nat} {spare : Nat → Bool} {held : Bool} {t : TypeId} {f0 f1 f2 f3 f4 : Field} {fuel : Nat} {cs : List Value} {x : DataW H × List MemPlace} (ht : P.underlying t = some (.struct #[f0, f1, f2, f3, f4])) (h : DataW.trod enc P w base spare held fuel t cs = some x) :
 ∃ y0 y1 y2 y3 y4 n, cs.length = P.cellsOf t ∧ DataW.trod enc P w base spare held n f0.type ((cs.drop f0.offset).take (P.cellsOf f0.type)) = some y0 ∧ DataW.trod enc P w base spare held n f1.type ((cs.drop f1.offset).take (P.cellsOf f1.type)) = some y1 ∧ DataW.trod enc P w base spare held n f2.type ((cs.drop f2.offset).take (P.cellsOf f2.type)) = some y2 ∧ DataW.trod enc P w base spare held n f3.type ((cs.drop f3.offset).take (P.cellsOf f3.type)) = some y3 ∧ DataW.trod enc P w base spare held n f4.type ((cs.drop f4.offset).take (P.cellsOf f4.type)) = some y4 := by
 obtain ⟨xs, n, _, rfl, hl, hlen, hf⟩ := DataW.trod_struct ht h
 match xs, hlen with
 | [y0, y1, y2, y3, y4], _ => exact ⟨y0, y1, y2, y3, y4, n, hl, by simpa using hf 0 f0 rfl, by simpa using hf 1 f1 rfl, by simpa using hf 2 f2 rfl, by simpa using hf 3 f3 rfl, by simpa using hf 4 f4 rfl⟩
theorem struct9 {H : Type} {enc : TypeId × Value → H} {P : Program} {w : World} {base : Nat} {spare : Nat → Bool} {held : Bool} {t : TypeId} {f0 f1 f2 f3 f4 f5 f6 f7 f8 : Field} {fuel : Nat} {cs : List Value} {x : DataW H × List MemPlace} (ht : P.underlying t = some (.struct #[f0, f1, f2, f3, f4, f5, f6, f7, f8])) (h : DataW.trod enc P w base spare held fuel t cs = some x) :
 ∃ y0 y1 y2 y3 y4 y5 y6 y7 y8 n, cs.length = P.cellsOf t ∧ DataW.trod enc P w base spare held n f0.type ((cs.drop f0.offset).take (P.cellsOf f0.type)) = some y0 ∧ DataW.trod enc P w base spare held n f1.type ((cs.drop f1.offset).take (P.cellsOf f1.type)) = some y1 ∧ DataW.trod enc P w base spare held n f2.type ((cs.drop f2.offset).take (P.cellsOf f2.type)) = some y2 ∧ DataW.trod enc P w base spare held n f3.type ((cs.drop f3.offset).take (P.cellsOf f3.type)) = some y3 ∧ DataW.trod enc P w base spare held n f4.type ((cs.drop f4.offset).take (P.cellsOf f4.type)) = some y4 ∧ DataW.trod enc P w base spare held n f5.type ((cs.drop f5.offset).take (P.cellsOf f5.type)) = some y5 ∧ DataW.trod enc P w base spare held n f6.type ((cs.drop f6.offset).take (P.cellsOf f6.type)) = some y6 ∧ DataW.trod enc P w base spare held n f7.type ((cs.drop f7.offset).take (P.cellsOf f7.type)) = some y7 ∧ DataW.trod enc P w base spare held n f8.type ((cs.drop f8.offset).take (P.cellsOf f8.type)) = some y8 := by
 obtain ⟨xs, n, _, rfl, hl, hlen, hf⟩ := DataW.trod_struct ht h
 match xs, hlen with
 | [y0, y1, y2, y3, y4, y5, y6, y7, y8], _ => exact ⟨y0, y1, y2, y3, y4, y5, y6, y7, y8, n, hl, by simpa using hf 0 f0 rfl, by simpa using hf 1 f1 rfl, by simpa using hf 2 f2 rfl, by simpa using hf 3 f3 rfl, by simpa using hf 4 f4 rfl, by simpa using hf 5 f5 rfl, by simpa using hf 6 f6 rfl, by simpa using hf 7 f7 rfl, by simpa using hf 8 f8 rfl⟩
theorem res_cells {H : Type} {enc : TypeId × Value → H} {w : World} {base : Nat} {sp : Nat → Bool} {held : Bool} {fuel : Nat} {cs : List Value} {y : DataW H × List MemPlace}
 (h : DataW.trod enc Tryz.prog w base sp held fuel 39 cs = some y) : ∃ (c : Int) (t : ByteArray), cs = [.int .i64 c, .string t] ∧ t.size ≤ maxLen := by
 obtain ⟨y0, y1, n, hx, hlen, h0, h1⟩ := trod_struct2 Tryz.underlying39 h
 rw [cells39] at hlen
 obtain ⟨c0, c1, rfl⟩ := list2' hlen
 simp only [cells9', cells3] at h0 h1
 obtain ⟨n0, e0, _, _⟩ := DataW.trod_int Tryz.underlying3 h0
 obtain ⟨s, e1, _, hs⟩ := DataW.trod_string Tryz.underlying9 h1
 simp at e0 e1
 exact ⟨n0, s, by rw [e0, e1], hs⟩
theorem make_cells {H : Type} {enc : TypeId × Value → H} {w : World} {base : Nat} {sp : Nat → Bool} {held : Bool} {fuel : Nat} {cs : List Value} {y : DataW H × List MemPlace}
 (h : DataW.trod enc Tryz.prog w base sp held fuel 23 cs = some y) : ∃ x : M3, cs = [.string x.nm, .string x.tl, .string x.ar] ∧ x.le maxLen := by
 obtain ⟨y0, y1, y2, n, hx, hlen, h0, h1, h2⟩ := Go.Deep.trod_struct3 Tryz.underlying23 h
 rw [cells23] at hlen
 obtain ⟨c0, c1, c2, rfl⟩ := list3' hlen
 simp only [cells9'] at h0 h1 h2
 obtain ⟨s0, e0, _, hs0⟩ := DataW.trod_string Tryz.underlying9 h0
 obtain ⟨s1, e1, _, hs1⟩ := DataW.trod_string Tryz.underlying9 h1
 obtain ⟨s2, e2, _, hs2⟩ := DataW.trod_string Tryz.underlying9 h2
 simp at e0 e1 e2
 exact ⟨⟨s0, s1, s2⟩, by rw [e0, e1, e2], hs0, hs1, hs2⟩
theorem look_cells {H : Type} {enc : TypeId × Value → H} {w : World} {base : Nat} {sp : Nat → Bool} {held : Bool} {fuel : Nat} {cs : List Value} {y : DataW H × List MemPlace}
 (h : DataW.trod enc Tryz.prog w base sp held fuel 68 cs = some y) : ∃ x : L4, cs = [.bool x.has, .string x.nm, .int .i64 x.cd, .string x.tx] ∧ x.le maxLen := by
 obtain ⟨y0, y1, y2, n, hx, hlen, h0, h1, h2⟩ := Go.Deep.trod_struct3 Tryz.underlying68 h
 rw [cells68] at hlen
 obtain ⟨c0, c1, c2, c3, rfl⟩ := list4' hlen
 simp only [cells9', cells4, cells39] at h0 h1 h2
 obtain ⟨s0, e0, _⟩ := DataW.trod_bool Tryz.underlying4 h0
 obtain ⟨s1, e1, _, hs1⟩ := DataW.trod_string Tryz.underlying9 h1
 obtain ⟨c, t, e2, ht⟩ := res_cells h2
 simp at e0 e1 e2
 exact ⟨⟨s0, s1, c, t⟩, by rw [e0, e1, e2.1, e2.2], hs1, ht⟩
theorem add_none' (b off i : Nat) : (⟨b, off, none⟩ : Addr).add i = ⟨b, off + i, none⟩ := by unfold Addr.add; split <;> simp_all
theorem openedL {H : Type} {enc : TypeId × Value → H} {W : World} {fuel : Nat} {cs : List Value} {y : DataW H × List MemPlace}
 (hf : DataW.trod enc Tryz.prog W 0 (fun _ => true) true fuel 24 cs = some y) :
 ∃ (a : Option Addr) (cap : Nat) (is : List L4), cs = [.slice a is.length cap] ∧ is.length ≤ maxLen ∧ (∀ i, (is.getD i l4z).le maxLen) ∧ LksAt W a is := by
 rcases Go.Deep.open_slice Tryz.underlying24 hf with ⟨rfl, _⟩ | ⟨a, len, cap, m, n, D, Pl, rfl, _, hl, hm, hmm, _, hx⟩
 · exact ⟨none, 0, [], rfl, Nat.zero_le _, getD_smallL (fun i hi => absurd hi (Nat.not_lt_zero _)), .inl rfl⟩
 · simp only [if_true] at hmm
   subst hmm
   have hex : ∀ i, i < m → ∃ x : L4, W.cells? 0 (a.add (i * 4)) 4 = some [.bool x.has, .string x.nm, .int .i64 x.cd, .string x.tx] ∧ x.le maxLen := fun i hi => by
    obtain ⟨cs', h1, h2⟩ := hx i hi
    obtain ⟨x, rfl, hs⟩ := look_cells h2
    rw [cells68] at h1
    exact ⟨x, h1, hs⟩
   obtain ⟨V, hV⟩ := @Go.Deep.choose_lt L4 ⟨l4z⟩ m (fun i x => W.cells? 0 (a.add (i * 4)) 4 = some [.bool x.has, .string x.nm, .int .i64 x.cd, .string x.tx] ∧ x.le maxLen) hex
   have hlen : ((List.range len).map V).length = len := by simp
   have hget : ∀ i, i < len → ((List.range len).map V).getD i l4z = V i := fun i hi => by simp [List.getD, hi]
   refine ⟨some a, m, (List.range len).map V, by rw [hlen], by rw [hlen]; omega, getD_smallL (fun i hi => ?_), ?_⟩
   · rw [hlen] at hi
     rw [hget i hi]
     exact (hV i (by omega)).2
   · rcases Nat.eq_zero_or_pos len with h0 | h0
     · exact .inl (by rw [h0]; rfl)
     · obtain ⟨b, off, spot⟩ := a
       obtain ⟨_, _, hc⟩ := World.cells?_some (hV 0 (by omega)).1
       have hc0 := hc 0 (by omega)
       have hspot : spot = none := by simpa [Addr.add] using World.cell?_spot hc0
       subst hspot
       refine .inr ⟨b, off, rfl, ?_, fun i hi => ?_⟩
       · rw [add_none', add_none'] at hc0
         rcases Nat.lt_or_ge b W.heap.size with h | h
         · exact h
         · simp [World.cell?, Array.getElem?_eq_none h] at hc0
       · rw [hlen] at hi
         rw [hget i hi]
         obtain ⟨_, _, hc⟩ := World.cells?_some (hV i (by omega)).1
         have e0 := hc 0 (by omega)
         have e1 := hc 1 (by omega)
         have e2 := hc 2 (by omega)
         have e3 := hc 3 (by omega)
         rw [add_none', add_none'] at e0 e1 e2 e3
         exact ⟨e0, e1, e2, e3⟩
theorem turn_cells {H : Type} {enc : TypeId × Value → H} {w : World} {base : Nat} {sp : Nat → Bool} {held : Bool} {fuel : Nat} {cs : List Value} {y : DataW H × List MemPlace}
 (h : DataW.trod enc Tryz.prog w base sp held fuel 41 cs = some y) : ∃ x : T6, cs = [.bool x.over, .int .i64 x.cd, .string x.tx, .bool x.has, .string x.nm, .int .i64 x.st] ∧ x.le maxLen := by
 obtain ⟨y0, y1, y2, y3, y4, n, hlen, h0, h1, h2, h3, h4⟩ := struct5 Tryz.underlying41 h
 rw [cells41] at hlen
 obtain ⟨c0, c1, c2, c3, c4, c5, rfl⟩ := list6' hlen
 simp only [cells9', cells4, cells39, cells3] at h0 h1 h2 h3 h4
 obtain ⟨s0, e0, _⟩ := DataW.trod_bool Tryz.underlying4 h0
 obtain ⟨c, t, e1, ht⟩ := res_cells h1
 obtain ⟨s2, e2, _⟩ := DataW.trod_bool Tryz.underlying4 h2
 obtain ⟨s3, e3, _, hs3⟩ := DataW.trod_string Tryz.underlying9 h3
 obtain ⟨s4, e4, _, _⟩ := DataW.trod_int Tryz.underlying3 h4
 simp at e0 e1 e2 e3 e4
 obtain ⟨e10, e11⟩ := e1
 subst e0 e10 e11 e2 e3 e4
 exact ⟨⟨s0, c, t, s2, s3, s4⟩, rfl, ht, hs3⟩
theorem msg_cells {H : Type} {enc : TypeId × Value → H} {W : World} {fuel : Nat} {cs : List Value} {y : DataW H × List MemPlace}
 (h : DataW.trod enc Tryz.prog W 0 (fun _ => true) true fuel 43 cs = some y) : ∃ x : G16, ∃ ai ci, cs = [.int .i64 x.kd, .int .i64 x.to, .int .i64 x.fr, .int .i64 x.ep, .int .i64 x.ed, .string x.km.nm, .string x.km.tl, .string x.km.ar, .slice ai x.ls.length ci, .int .i64 x.ct, .bool x.tn.over, .int .i64 x.tn.cd, .string x.tn.tx, .bool x.tn.has, .string x.tn.nm, .int .i64 x.tn.st] ∧ x.le maxLen ∧ LksAt W ai x.ls := by
 obtain ⟨y0, y1, y2, y3, y4, y5, y6, y7, y8, n, hlen, h0, h1, h2, h3, h4, h5, h6, h7, h8⟩ := struct9 Tryz.underlying43 h
 rw [cells43] at hlen
 obtain ⟨c0, c1, c2, c3, c4, c5, c6, c7, c8, c9, c10, c11, c12, c13, c14, c15, rfl⟩ := list16' hlen
 simp only [cells23, cells24, cells41, cells3] at h0 h1 h2 h3 h4 h5 h6 h7 h8
 obtain ⟨s0, e0, _, _⟩ := DataW.trod_int Tryz.underlying3 h0
 obtain ⟨s1, e1, _, _⟩ := DataW.trod_int Tryz.underlying3 h1
 obtain ⟨s2, e2, _, _⟩ := DataW.trod_int Tryz.underlying3 h2
 obtain ⟨s3, e3, _, _⟩ := DataW.trod_int Tryz.underlying3 h3
 obtain ⟨s4, e4, _, _⟩ := DataW.trod_int Tryz.underlying3 h4
 obtain ⟨m, e5, hm⟩ := make_cells h5
 obtain ⟨ai, ci, ls, e6, hl, hs, hat⟩ := openedL h6
 obtain ⟨s7, e7, _, _⟩ := DataW.trod_int Tryz.underlying3 h7
 obtain ⟨t, e8, ht⟩ := turn_cells h8
 simp at e0 e1 e2 e3 e4 e5 e6 e7 e8
 obtain ⟨e50, e51, e52⟩ := e5
 obtain ⟨e80, e81, e82, e83, e84, e85⟩ := e8
 subst e0 e1 e2 e3 e4 e50 e51 e52 e6 e7 e80 e81 e82 e83 e84 e85
 exact ⟨⟨s0, s1, s2, s3, s4, m, ls, s7, t⟩, ai, ci, rfl, ⟨hm, ⟨hl, hs⟩, ht⟩, hat⟩
theorem wk_cells {H : Type} {enc : TypeId × Value → H} {W : World} {fuel : Nat} {cs : List Value} {y : DataW H × List MemPlace}
 (h : DataW.trod enc Tryz.prog W 0 (fun _ => true) true fuel 45 cs = some y) : ∃ x : W19, ∃ ai ci, cs = [.int .i64 x.no, .bool x.up, .bool x.has, .int .i64 x.of.kd, .int .i64 x.of.to, .int .i64 x.of.fr, .int .i64 x.of.ep, .int .i64 x.of.ed, .string x.of.km.nm, .string x.of.km.tl, .string x.of.km.ar, .slice ai x.of.ls.length ci, .int .i64 x.of.ct, .bool x.of.tn.over, .int .i64 x.of.tn.cd, .string x.of.tn.tx, .bool x.of.tn.has, .string x.of.tn.nm, .int .i64 x.of.tn.st] ∧ x.of.le maxLen ∧ LksAt W ai x.of.ls := by
 obtain ⟨y0, y1, y2, y3, n, hlen, h0, h1, h2, h3⟩ := struct4 Tryz.underlying45 h
 rw [cells45] at hlen
 obtain ⟨c0, c1, c2, c3, c4, c5, c6, c7, c8, c9, c10, c11, c12, c13, c14, c15, c16, c17, c18, rfl⟩ := list19' hlen
 simp only [cells4, cells43, cells3] at h0 h1 h2 h3
 obtain ⟨s0, e0, _, _⟩ := DataW.trod_int Tryz.underlying3 h0
 obtain ⟨s1, e1, _⟩ := DataW.trod_bool Tryz.underlying4 h1
 obtain ⟨s2, e2, _⟩ := DataW.trod_bool Tryz.underlying4 h2
 obtain ⟨m, ai, ci, e3, hm, hat⟩ := msg_cells h3
 simp at e0 e1 e2 e3
 obtain ⟨d0, d1, d2, d3, d4, d5, d6, d7, d8, d9, d10, d11, d12, d13, d14, d15⟩ := e3
 subst e0 e1 e2 d0 d1 d2 d3 d4 d5 d6 d7 d8 d9 d10 d11 d12 d13 d14 d15
 exact ⟨⟨s0, s1, s2, m⟩, ai, ci, rfl, hm, hat⟩
theorem own : ownKnob Tryz.prog.godebug = none := by kernel_rfl
theorem laidOut : laidOutB Tryz.prog = true := by kernel_rfl
def cell1 : DataW Unit → Value
 | .lit (.int k n) => .int k n
 | .lit (.bool b) => .bool b
 | .lit (.string l) => .string ⟨l.toArray⟩
 | _ => .bool false
def cells1 : DataW Unit → List Value
 | .agg es => es.map cell1
 | d => [cell1 d]
def cells2 : DataW Unit → Array Value
 | .agg ds => (ds.flatMap cells1).toArray
 | _ => #[]
def withTab (g : Nat) (t : Array Value) (w : World) : World := { w with heap := w.heap.modify g fun
 | .cells _ ty frozen => .cells t ty frozen
 | o => o }
end Go.Proofs.YtpjpckmfehfniaaGreatDoor.M
