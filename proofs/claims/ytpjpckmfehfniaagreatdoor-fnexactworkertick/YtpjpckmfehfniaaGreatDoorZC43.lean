import Derived.Test.YtpjpckmfehfniaaGreatDoorZC42
import Derived.Test.YtpjpckmfehfniaaGreatDoorY3
import Derived.Test.YtpjpckmfehfniaaGreatDoorZC22
namespace Go.Proofs.YtpjpckmfehfniaaGreatDoor
open Go.RowKit
def Halt (t : TN) (x : M.L4) : Prop := t.over = true ∨ x.has ≠ t.has ∨ x.nm ≠ t.name ∨ ¬ M.LkOk x
open Classical in
noncomputable def goL (tl ar : ByteArray) : TN → RS → List M.L4 → TN
 | t, _, [] => t
 | t, s, x :: xs => if Halt t x then zeroT else goL tl ar (nextR tl ar s ⟨x.cd, x.tx⟩).1 (nextR tl ar s ⟨x.cd, x.tx⟩).2 xs
open Classical in
theorem goL_halt {tl ar : ByteArray} {t : TN} {s : RS} {x : M.L4} {xs : List M.L4} (h : Halt t x) : goL tl ar t s (x :: xs) = zeroT := by
 show (if _ then _ else _) = _
 exact if_pos h
open Classical in
theorem goL_go {tl ar : ByteArray} {t : TN} {s : RS} {x : M.L4} {xs : List M.L4} (h : ¬ Halt t x) : goL tl ar t s (x :: xs) = goL tl ar (nextR tl ar s ⟨x.cd, x.tx⟩).1 (nextR tl ar s ⟨x.cd, x.tx⟩).2 xs := by
 show (if _ then _ else _) = _
 exact if_neg h
def turn0 (tl : ByteArray) : TN := ⟨false, 0, ⟨#[]⟩, false, tl, 0⟩
open Classical in
noncomputable def goT (m : M.M3) (ls : List M.L4) : TN := if M.okM m = true ∧ ls.length ≤ 15 then goL m.tl m.ar (turn0 m.tl) rs0 ls else zeroT
theorem goT_no {m : M.M3} {ls : List M.L4} (h : M.okM m = false ∨ 15 < ls.length) : goT m ls = zeroT := by
 unfold goT
 refine if_neg fun h' => ?_
 rcases h with h | h
 · rw [h'.1] at h; cases h
 · omega
theorem goT_yes {m : M.M3} {ls : List M.L4} (h : M.okM m = true) (h2 : ls.length ≤ 15) : goT m ls = goL m.tl m.ar (turn0 m.tl) rs0 ls := if_pos ⟨h, h2⟩
theorem drop_get {ls : List M.L4} {k : Nat} (h : k < ls.length) : ls.drop k = ls.getD k M.l4z :: ls.drop (k + 1) := by
 rw [List.drop_eq_getElem_cons h]
 congr 1
 simp [List.getD, h]
theorem six_cells {u : World} {B : Nat} (h : u.heap[B]? = some (.cells z6 30 (0, 0))) : u.cell? ⟨B, 0, none⟩ = some (.bool false) ∧ u.cell? ⟨B, 1, none⟩ = some (.int .i64 0) ∧ u.cell? ⟨B, 2, none⟩ = some (.string ⟨#[]⟩) ∧ u.cell? ⟨B, 3, none⟩ = some (.bool false) ∧ u.cell? ⟨B, 4, none⟩ = some (.string ⟨#[]⟩) ∧ u.cell? ⟨B, 5, none⟩ = some (.int .i64 0) ∧ ∀ j, u.frozen? ⟨B, j, none⟩ = false :=
 ⟨Lib.cell_of_heap h 0, Lib.cell_of_heap h 1, Lib.cell_of_heap h 2, Lib.cell_of_heap h 3, Lib.cell_of_heap h 4, Lib.cell_of_heap h 5, fun j => Lib.frozen_of_heap h j⟩
def WG (m : M.M3) (w : World) : World := (w.alloc (.cells #[.string m.nm, .string m.tl, .string m.ar] 32)).alloc (.cells #[.bool false, .int .i64 0, .string ⟨#[]⟩, .bool false, .string ⟨#[]⟩, .int .i64 0] 30)
theorem WG_size (m : M.M3) (w : World) : (WG m w).heap.size = w.heap.size + 2 := by simp [WG]
theorem WG_below (m : M.M3) (w : World) : Below w.heap.size w (WG m w) := ((Below.refl _ _).alloc (Nat.le_refl _) _).alloc (by simp) _
theorem WG_z {m : M.M3} {w u : World} (h : Below (w.heap.size + 2) (WG m w) u) : u.heap[w.heap.size + 1]? = some (.cells z6 30 (0, 0)) := by
 rw [h.block _ (by omega)]
 exact alloc_new (by simp) _
theorem WG_m {m : M.M3} {w u : World} (h : Below (w.heap.size + 2) (WG m w) u) : u.cell? ⟨w.heap.size, 0, none⟩ = some (.string m.nm) ∧ u.cell? ⟨w.heap.size, 1, none⟩ = some (.string m.tl) ∧ u.cell? ⟨w.heap.size, 2, none⟩ = some (.string m.ar) := by
 have e : u.heap[w.heap.size]? = some (.cells #[.string m.nm, .string m.tl, .string m.ar] 32 (0, 0)) := by
  rw [h.block _ (by omega), WG, Lib.alloc_old _ _ _ (by simp)]
  exact alloc_new rfl _
 exact ⟨Lib.cell_of_heap e 0, Lib.cell_of_heap e 1, Lib.cell_of_heap e 2⟩
set_option maxHeartbeats 4000000 in
set_option maxRecDepth 100000 in
theorem c11n (m : M.M3) (a : Option Addr) (cap : Nat) (ls : List M.L4) (w : World) (hm : m.le 1048576) (hl : ls.length ≤ 1048576) (hno : M.okM m = false ∨ 15 < ls.length) :
 Calls Tryz.prog 11 #[.agg #[.string m.nm, .string m.tl, .string m.ar], .slice a ls.length cap] w fun e w' => e = .returned zeroT.v ∧ Below w.heap.size w w' := by
 have hml : m.le 1048700 := ⟨by have := hm.1; omega, by have := hm.2.1; omega, by have := hm.2.2; omega⟩
 have fin : ∀ u : World, Hid (Below (w.heap.size + 2) (WG m w) u) → Below w.heap.size w ((((((u.setCell ⟨w.heap.size + 1, 0, none⟩ (.bool false)).setCell ⟨w.heap.size + 1, 1, none⟩ (.int .i64 0)).setCell ⟨w.heap.size + 1, 2, none⟩ (.string ⟨#[]⟩)).setCell ⟨w.heap.size + 1, 3, none⟩ (.bool false)).setCell ⟨w.heap.size + 1, 4, none⟩ (.string ⟨#[]⟩)).setCell ⟨w.heap.size + 1, 5, none⟩ (.int .i64 0)) := fun u hb =>
  ((WG_below m w).trans (hb.out.mono (by omega))).trans (set6_below (by omega) _ _ _ _ _ _)
 have hlen : (0 : Int) ≤ ls.length := by omega
 have HW : Hid (WG m w = (w.alloc (.cells #[.string m.nm, .string m.tl, .string m.ar] 32)).alloc (.cells #[.bool false, .int .i64 0, .string ⟨#[]⟩, .bool false, .string ⟨#[]⟩, .int .i64 0] 30)) := rfl
 rcases hk : M.okM m with _ | _
 · go_enter Tryz.func11, Tryz.ntmps11
   go_wp2_with fail
   rw [← HW.out]
   refine (M.c38v hk _ hml).mono ?_
   rintro e w1 ⟨rfl, hb1⟩
   have HB : Hid (Below (w.heap.size + 2) (WG m w) w1) := hb1.mono (by rw [WG_size]; omega)
   obtain ⟨q0, q1, q2, q3, q4, q5, hfz⟩ := six_cells (WG_z HB.out)
   clear hb1
   go_wp2
   obtain ⟨s0, s1, s2, s3, s4, s5⟩ := set6 (WG_z HB.out) (.bool false) (.int .i64 0) (.string ⟨#[]⟩) (.bool false) (.string ⟨#[]⟩) (.int .i64 0)
   exact bodyPost_ret (v := zeroT.v) (by simp [results, Tryz.results11, go_sem, s0, s1, s2, s3, s4, s5, zeroT, TN.v]) rfl ⟨rfl, fin _ HB⟩
 · have h15 : 15 < (ls.length : Int) := by
    rcases hno with h | h
    · rw [hk] at h; cases h
    · omega
   go_enter Tryz.func11, Tryz.ntmps11
   go_wp2_with fail
   rw [← HW.out]
   refine (M.c38v hk _ hml).mono ?_
   rintro e w1 ⟨rfl, hb1⟩
   have HB : Hid (Below (w.heap.size + 2) (WG m w) w1) := hb1.mono (by rw [WG_size]; omega)
   obtain ⟨q0, q1, q2, q3, q4, q5, hfz⟩ := six_cells (WG_z HB.out)
   clear hb1
   go_wp2
   obtain ⟨s0, s1, s2, s3, s4, s5⟩ := set6 (WG_z HB.out) (.bool false) (.int .i64 0) (.string ⟨#[]⟩) (.bool false) (.string ⟨#[]⟩) (.int .i64 0)
   exact bodyPost_ret (v := zeroT.v) (by simp [results, Tryz.results11, go_sem, s0, s1, s2, s3, s4, s5, zeroT, TN.v]) rfl ⟨rfl, fin _ HB⟩
end Go.Proofs.YtpjpckmfehfniaaGreatDoor
namespace Go.Proofs.YtpjpckmfehfniaaGreatDoor
open Go.RowKit
def T6At (u : World) (B : Nat) (t : TN) : Prop := u.heap[B]? = some (.cells #[.bool t.over, .int .i64 t.code, .string t.text, .bool t.has, .string t.name, .int .i64 t.steps] 30 (0, 0))
theorem T6At.set {u : World} {B : Nat} {t : TN} (h : T6At u B t) (t' : TN) : T6At ((((((u.setCell ⟨B, 0, none⟩ (.bool t'.over)).setCell ⟨B, 1, none⟩ (.int .i64 t'.code)).setCell ⟨B, 2, none⟩ (.string t'.text)).setCell ⟨B, 3, none⟩ (.bool t'.has)).setCell ⟨B, 4, none⟩ (.string t'.name)).setCell ⟨B, 5, none⟩ (.int .i64 t'.steps)) B t' := by
 have h0 := heap_setCell_same u B 0 _ 30 (.bool t'.over) h
 have h1 := heap_setCell_same _ B 1 _ 30 (.int .i64 t'.code) h0
 have h2 := heap_setCell_same _ B 2 _ 30 (.string t'.text) h1
 have h3 := heap_setCell_same _ B 3 _ 30 (.bool t'.has) h2
 have h4 := heap_setCell_same _ B 4 _ 30 (.string t'.name) h3
 exact heap_setCell_same _ B 5 _ 30 (.int .i64 t'.steps) h4
theorem T6At.run {base b0 b1 b2 b3 : Nat} {u : World} {nm tl ar : ByteArray} {s : RS} {v1 v2 : Value} (h : RunW base b0 b1 b2 b3 u nm tl ar s v1 v2) {B : Nat} {t : TN} (hB : T6At u B t) (x0 x1 x2 x3 x4 x5 : Value) : RunW base b0 b1 b2 b3 ((((((u.setCell ⟨B, 0, none⟩ x0).setCell ⟨B, 1, none⟩ x1).setCell ⟨B, 2, none⟩ x2).setCell ⟨B, 3, none⟩ x3).setCell ⟨B, 4, none⟩ x4).setCell ⟨B, 5, none⟩ x5) nm tl ar s v1 v2 := by
 have h0 := heap_setCell_same u B 0 _ 30 x0 hB
 have h1 := heap_setCell_same _ B 1 _ 30 x1 h0
 have h2 := heap_setCell_same _ B 2 _ 30 x2 h1
 have h3 := heap_setCell_same _ B 3 _ 30 x3 h2
 have h4 := heap_setCell_same _ B 4 _ 30 x4 h3
 exact (((((h.set hB x0).set h0 x1).set h1 x2).set h2 x3).set h3 x4).set h4 x5
theorem T6At.cells {u : World} {B : Nat} {t : TN} (h : T6At u B t) : u.cell? ⟨B, 0, none⟩ = some (.bool t.over) ∧ u.cell? ⟨B, 1, none⟩ = some (.int .i64 t.code) ∧ u.cell? ⟨B, 2, none⟩ = some (.string t.text) ∧ u.cell? ⟨B, 3, none⟩ = some (.bool t.has) ∧ u.cell? ⟨B, 4, none⟩ = some (.string t.name) ∧ u.cell? ⟨B, 5, none⟩ = some (.int .i64 t.steps) ∧ ∀ j, u.frozen? ⟨B, j, none⟩ = false :=
 ⟨Lib.cell_of_heap h 0, Lib.cell_of_heap h 1, Lib.cell_of_heap h 2, Lib.cell_of_heap h 3, Lib.cell_of_heap h 4, Lib.cell_of_heap h 5, fun j => Lib.frozen_of_heap h j⟩
theorem T6At.blk {u : World} {B : Nat} {t : TN} (h : T6At u B t) : M.BlkAt u B [.bool t.over, .int .i64 t.code, .string t.text, .bool t.has, .string t.name, .int .i64 t.steps] := fun j v e => by
 rw [Lib.cell_of_heap h j]
 simpa using e
theorem T6At.below {u u' : World} {B N : Nat} {t : TN} (h : T6At u B t) (hb : Below N u u') (hN : B < N) : T6At u' B t := (hb.block B hN).trans h
theorem wp_turn {ops : Array Oper} {rest : List Oper} {o : Oper} {a : Act} {u : World} {Q : Exit → Act → World → Prop} (hgd : o.guard = none) (x y : Operand) (ho : o.op = .store 30 x y) (B : Nat) (hx : a.eval x = .pointer (some ⟨B, 0, none⟩)) (t t0 : TN) (hy : a.eval y = t.v) (hT : T6At u B t0) (hdst : o.dst = none)
 (h : ∀ u', T6At u' B t → (∀ m, m ≤ B → Below m u u') → (∀ k, k ≠ B → u'.heap[k]? = u.heap[k]?) → wpList Tryz.prog ops Q rest a u') : wpList Tryz.prog ops Q (o :: rest) a u := by
 refine M.wpList_store_blk (P := Tryz.prog) hgd 30 x y ho B 0 hx [.bool t.over, .int .i64 t.code, .string t.text, .bool t.has, .string t.name, .int .i64 t.steps] hy (fun i hi => ?_) (fun j => Lib.frozen_of_heap hT j) (by intro v hv; simp at hv; rcases hv with rfl | rfl | rfl | rfl | rfl | rfl <;> rfl) (by kernel_rfl) hdst ?_
 · rw [Nat.zero_add, Lib.cell_of_heap hT i]
   have hi' : i < 6 := hi
   simp [hi']
 · refine h _ (hT.set t) (fun m hm => set6_below hm _ _ _ _ _ _) (fun k hk => ?_)
   show ((((((u.setCell ⟨B, 0, none⟩ _).setCell ⟨B, 1, none⟩ _).setCell ⟨B, 2, none⟩ _).setCell ⟨B, 3, none⟩ _).setCell ⟨B, 4, none⟩ _).setCell ⟨B, 5, none⟩ _).heap[k]? = _
   simp only [heap_setCell_other _ _ _ _ (show k ≠ (⟨B, 0, none⟩ : Addr).block from hk), heap_setCell_other _ _ _ _ (show k ≠ (⟨B, 1, none⟩ : Addr).block from hk), heap_setCell_other _ _ _ _ (show k ≠ (⟨B, 2, none⟩ : Addr).block from hk), heap_setCell_other _ _ _ _ (show k ≠ (⟨B, 3, none⟩ : Addr).block from hk), heap_setCell_other _ _ _ _ (show k ≠ (⟨B, 4, none⟩ : Addr).block from hk), heap_setCell_other _ _ _ _ (show k ≠ (⟨B, 5, none⟩ : Addr).block from hk)]
theorem RunW.keep {base b0 b1 b2 b3 : Nat} {u u' : World} {nm tl ar : ByteArray} {s : RS} {v1 v2 : Value} (h : RunW base b0 b1 b2 b3 u nm tl ar s v1 v2) {B : Nat} {x : Array Value} (hB : u.heap[B]? = some (.cells x 30 (0, 0))) (hk : ∀ k, k ≠ B → u'.heap[k]? = u.heap[k]?) : RunW base b0 b1 b2 b3 u' nm tl ar s v1 v2 := by
 have s3 : ∀ (k : Nat) (x : Array Value) (t : TypeId), u.heap[k]? = some (.cells x t (0, 0)) → t ≠ 30 → u'.heap[k]? = some (.cells x t (0, 0)) := fun k x t h1 ht => (hk k (blk_ne h1 hB ht)).trans h1
 refine ⟨h.le0, h.le1, h.le2, h.le3, s3 _ _ _ h.h0 (by decide), s3 _ _ _ h.h1 (by decide), s3 _ _ _ h.h2 (by decide), s3 _ _ _ h.h3 (by decide), ?_, ?_⟩
 · refine ownsRow_keep h.o1 fun k hk' => ?_
   obtain ⟨_, cur, hc⟩ := own_block h.o1 hk'
   rw [s3 _ _ _ hc (by decide), hc]
 · refine ownsRow_keep h.o2 fun k hk' => ?_
   obtain ⟨_, cur, hc⟩ := own_block h.o2 hk'
   rw [s3 _ _ _ hc (by decide), hc]
theorem lks_cells {w u : World} {a : Option Addr} {ls : List M.L4} (h : M.LksAt w a ls) (hb : Below w.heap.size w u) {k : Nat} (hk : k < ls.length) : ∃ b off, a = some ⟨b, off, none⟩ ∧ b < w.heap.size ∧ u.cell? ⟨b, off + k * 4, none⟩ = some (.bool (ls.getD k M.l4z).has) ∧ u.cell? ⟨b, off + k * 4 + 1, none⟩ = some (.string (ls.getD k M.l4z).nm) ∧ u.cell? ⟨b, off + k * 4 + 2, none⟩ = some (.int .i64 (ls.getD k M.l4z).cd) ∧ u.cell? ⟨b, off + k * 4 + 3, none⟩ = some (.string (ls.getD k M.l4z).tx) := by
 rcases h with h | ⟨b, off, h1, h2, h3⟩
 · rw [h] at hk; exact absurd hk (Nat.not_lt_zero _)
 · obtain ⟨x0, x1, x2, x3⟩ := h3 k hk
   exact ⟨b, off, h1, h2, (hb.cell (p := ⟨b, off + k * 4, none⟩) h2).trans x0, (hb.cell (p := ⟨b, off + k * 4 + 1, none⟩) h2).trans x1, (hb.cell (p := ⟨b, off + k * 4 + 2, none⟩) h2).trans x2, (hb.cell (p := ⟨b, off + k * 4 + 3, none⟩) h2).trans x3⟩
set_option maxHeartbeats 8000000 in
set_option maxRecDepth 100000 in
theorem c11y (m : M.M3) (a : Option Addr) (cap : Nat) (ls : List M.L4) (w : World) (hm : m.le 1048576) (hk : M.okM m = true) (h15 : ls.length ≤ 15) (hs : ∀ i, (ls.getD i M.l4z).le 1048576) (hat : M.LksAt w a ls) (hsh : ShapesAt w) (hmx : MaxAt w) :
 Calls Tryz.prog 11 #[.agg #[.string m.nm, .string m.tl, .string m.ar], .slice a ls.length cap] w fun e w' => e = .returned (goL m.tl m.ar (turn0 m.tl) rs0 ls).v ∧ Below w.heap.size w w' := by
 have hml : m.le 1048700 := ⟨by have := hm.1; omega, by have := hm.2.1; omega, by have := hm.2.2; omega⟩
 have h15' : (ls.length : Int) ≤ 15 := by omega
 have HW : Hid (WG m w = (w.alloc (.cells #[.string m.nm, .string m.tl, .string m.ar] 32)).alloc (.cells #[.bool false, .int .i64 0, .string ⟨#[]⟩, .bool false, .string ⟨#[]⟩, .int .i64 0] 30)) := rfl
 have HAT : Hid (M.LksAt w a ls) := hat
 have HSH : Hid (ShapesAt w) := hsh
 have HMX : Hid (MaxAt w) := hmx
 clear hat hsh hmx
 go_enter Tryz.func11, Tryz.ntmps11
 go_wp2_with fail
 rw [← HW.out]
 refine (M.c38v hk _ hml).mono ?_
 rintro e w1 ⟨rfl, hb1⟩
 have HB : Hid (Below (w.heap.size + 2) (WG m w) w1) := hb1.mono (by rw [WG_size]; omega)
 obtain ⟨x0, x1, x2⟩ := WG_m HB.out
 have hz1 : w.heap.size + 2 ≤ w1.heap.size := by have := hb1.size; rw [WG_size] at this; exact this
 clear hb1
 go_wp2_with fail
 refine (c39 m.nm m.tl m.ar w1).mono ?_
 rintro e w2 ⟨rfl, hb2⟩
 have HB2 : Hid (Below (w.heap.size + 2) (WG m w) w2) := HB.out.trans (hb2.mono hz1)
 have hz2 : w.heap.size + 2 ≤ w2.heap.size := Nat.le_trans hz1 hb2.size
 obtain ⟨y0, y1, y2⟩ := WG_m HB2.out
 have p0 := past (show w.heap.size < w2.heap.size by omega) y0
 have p1 := past (show w.heap.size < w2.heap.size by omega) y1
 have p2 := past (show w.heap.size < w2.heap.size by omega) y2
 obtain ⟨w3, hw3⟩ : ∃ w3, w3 = w2.alloc (.cells #[.bool false, .int .i64 0, .string ⟨#[]⟩, .bool false, .string m.tl, .int .i64 0] 30) := ⟨_, rfl⟩
 have HW3 : Hid (w3 = w2.alloc (.cells #[.bool false, .int .i64 0, .string ⟨#[]⟩, .bool false, .string m.tl, .int .i64 0] 30)) := hw3
 clear hw3
 clear hb2 HB x0 x1 x2
 go_wp2_with fail
 rw [← HW3.out]
 refine (c40 m.nm m.tl m.ar w3).mono ?_
 rintro e w4 ⟨b0, b1, b2, b3, rfl, hrun, hb4⟩
 have hz3 : w3.heap.size = w2.heap.size + 1 := by rw [HW3.out]; simp
 have hz4 : w2.heap.size + 1 ≤ w4.heap.size := by have := hb4.size; omega
 have HT4 : Hid (w4.heap[w2.heap.size]? = some (.cells #[.bool false, .int .i64 0, .string ⟨#[]⟩, .bool false, .string m.tl, .int .i64 0] 30 (0, 0))) := (hb4.block _ (by omega)).trans (by rw [HW3.out]; exact alloc_new rfl _)
 have HB4 : Hid (Below (w.heap.size + 2) (WG m w) w4) := (HB2.out.trans (by rw [HW3.out]; exact (Below.refl _ _).alloc hz2 _)).trans (hb4.mono (by omega))
 have HRUN : Hid (RunW w3.heap.size b0 b1 b2 b3 w4 m.nm m.tl m.ar rs0 (.slice none 0 0) (.slice none 0 0)) := hrun
 clear hb4 hrun y0 y1 y2 p0 p1 p2
 go_wp2_with fail
 go_loopw [24] (fun r wr => ∃ (k : Nat) (t : TN) (s : RS) (v1 v2 : Value), r = .int .i64 k ∧ k ≤ ls.length ∧ Hid (goL m.tl m.ar (turn0 m.tl) rs0 ls = goL m.tl m.ar t s (ls.drop k)) ∧ Hid (T6At wr w2.heap.size t) ∧ Hid (RunW w3.heap.size b0 b1 b2 b3 wr m.nm m.tl m.ar s v1 v2) ∧ Hid (RSOk s) ∧ s.reps.length ≤ k ∧ Hid (Below (w.heap.size + 2) (WG m w) wr) ∧ w3.heap.size ≤ wr.heap.size) (fun r _ => ls.length - (intOf r).toNat)
 case atStart => exact ⟨0, turn0 m.tl, rs0, _, _, rfl, Nat.zero_le _, rfl, HT4.out, HRUN.out, rs0_ok, Nat.zero_le _, HB4.out, by omega⟩
 case round =>
  obtain ⟨k, t, s, v1, v2, rfl, hkl, HG, HT, HR, HO, hsl, HBr, hzr⟩ := hrel
  have hBw : Below w.heap.size w wr := (WG_below m w).trans (HBr.out.mono (by omega))
  obtain ⟨o, c, tx, hh, n, st⟩ := t
  obtain ⟨t0, t1, t2, t3, t4, t5, tf⟩ := T6At.cells HT.out
  by_cases hlt : k < ls.length
  · obtain ⟨lb, off, ha, hlb, x0, x1, x2, x3⟩ := lks_cells HAT.out hBw hlt
    subst ha
    have hxs := hs k
    have HD : Hid (ls.drop k = ls.getD k M.l4z :: ls.drop (k + 1)) := drop_get hlt
    generalize ls.getD k M.l4z = x at *
    obtain ⟨xh, xn, xc, xt⟩ := x
    have hl1 : w2.heap.size < wr.heap.size := by omega
    have hl2 : w.heap.size + 1 < wr.heap.size := by omega
    have p0 := past (p := ⟨w2.heap.size, 0, none⟩) hl1 t0 (.cells #[.bool xh, .string xn, .int .i64 xc, .string xt] 76)
    have p3 := past (p := ⟨w2.heap.size, 3, none⟩) hl1 t3 (.cells #[.bool xh, .string xn, .int .i64 xc, .string xt] 76)
    have p4 := past (p := ⟨w2.heap.size, 4, none⟩) hl1 t4 (.cells #[.bool xh, .string xn, .int .i64 xc, .string xt] 76)
    have HBa : Hid (Below (w.heap.size + 2) (WG m w) (wr.alloc (.cells #[.bool xh, .string xn, .int .i64 xc, .string xt] 76))) := HBr.out.alloc (by omega) _
    clear t0 t1 t2 t3 t4 t5 tf hBw
    cases o
    · by_cases hhe : xh = hh
      · subst hhe
        by_cases hne : xn = n
        · subst hne
          have hne' : (xn.toList == xn.toList) = true := by simp
          go_wp2_with fail
          refine (M.c41 ⟨xh, xn, xc, xt⟩ _ ⟨by have := hxs.1; exact Nat.le_trans this (by omega), by have := hxs.2; exact Nat.le_trans this (by omega)⟩).mono ?_
          rintro e w5 ⟨⟨r, rfl, hr⟩, hb5⟩
          have hz5 : wr.heap.size + 1 ≤ w5.heap.size := by have := hb5.size; simpa using this
          have HB5 : Hid (Below (w.heap.size + 2) (WG m w) w5) := HBa.out.trans (hb5.mono (by simp; omega))
          have HX : Hid (r = true ↔ M.LkOk ⟨xh, xn, xc, xt⟩) := hr
          have hbr : Below wr.heap.size wr w5 := ((Below.refl _ _).alloc (Nat.le_refl _) _).trans (hb5.mono (by simp))
          have HT5 : Hid (T6At w5 w2.heap.size ⟨false, c, tx, xh, xn, st⟩) := HT.out.below hbr hl1
          have HR5 : Hid (RunW w3.heap.size b0 b1 b2 b3 w5 m.nm m.tl m.ar s v1 v2) := HR.out.below hbr
          have z2 : w5.cell? ⟨wr.heap.size, 2, none⟩ = some (.int .i64 xc) := (hb5.cell (p := ⟨wr.heap.size, 2, none⟩) (by simp)).trans (by simp [go_sem])
          have z3 : w5.cell? ⟨wr.heap.size, 3, none⟩ = some (.string xt) := (hb5.cell (p := ⟨wr.heap.size, 3, none⟩) (by simp)).trans (by simp [go_sem])
          clear hb5 hr hbr p0 p3 p4 x0 x1 x2 x3
          cases r
          · have HZ : Hid (goL m.tl m.ar (turn0 m.tl) rs0 ls = zeroT) := by
             rw [HG.out, HD.out]; exact goL_halt (.inr (.inr (.inr fun h => by cases HX.out.2 h)))
            go_wp2_with (refine wp_turn rfl (.tmp 4) (.tmp 49) rfl (w.heap.size + 1) rfl zeroT zeroT rfl (WG_z HB5.out) rfl ?_; intro u' hT' hB' _)
            refine bodyPost_ret (v := zeroT.v) (M.results_blk (P := Tryz.prog) (ty := 30) rfl _ _ (w.heap.size + 1) _ _ rfl hT'.blk Tryz.underlying30 rfl (by kernel_rfl)) rfl ⟨by rw [HZ.out], ?_⟩
            exact ((WG_below m w).trans (HB5.out.mono (by omega))).trans (hB' _ (by omega))
          · have hhalt : ¬ Halt ⟨false, c, tx, xh, xn, st⟩ ⟨xh, xn, xc, xt⟩ := by
             rintro (h | h | h | h)
             · cases h
             · exact h rfl
             · exact h rfl
             · exact h (HX.out.1 rfl)
            have HG' : Hid (goL m.tl m.ar (turn0 m.tl) rs0 ls = goL m.tl m.ar (nextR m.tl m.ar s ⟨xc, xt⟩).1 (nextR m.tl m.ar s ⟨xc, xt⟩).2 (ls.drop (k + 1))) := by
             rw [HG.out, HD.out]; exact goL_go hhalt
            have hBw5 : Below w.heap.size w w5 := (WG_below m w).trans (HB5.out.mono (by omega))
            have hw1 : 1 < w.heap.size := HMX.out.1
            go_wp2_with fail
            refine (c88 w3.heap.size b0 b1 b2 b3 m.nm m.tl m.ar s v1 v2 ⟨xc, xt⟩ w5 HR5.out HO.out (by omega) (by have := hxs.2; exact this) (by have := hm.2.2; exact this) (shapes_below HSH.out hBw5) (max_below HMX.out hBw5) (by omega)).mono ?_
            rintro e w6 ⟨rfl, ⟨v1', v2', HR6⟩, hb6⟩
            have HO6 : Hid (RSOk (nextR m.tl m.ar s ⟨xc, xt⟩).2) := next_ok HO.out (by have := hxs.2; exact this)
            have hl6 : (nextR m.tl m.ar s ⟨xc, xt⟩).2.reps.length ≤ s.reps.length + 1 := next_len
            obtain ⟨⟨t', s'⟩, hN⟩ : ∃ p, nextR m.tl m.ar s ⟨xc, xt⟩ = p := ⟨_, rfl⟩
            rw [hN] at HR6 HO6 hl6 HG' 
            rw [hN]
            have HT6 : Hid (T6At w6 w2.heap.size ⟨false, c, tx, xh, xn, st⟩) := HT5.out.below hb6 (by omega)
            have HRW : Hid (RunW w3.heap.size b0 b1 b2 b3 w6 m.nm m.tl m.ar s' v1' v2') := HR6
            have HB6 : Hid (Below (w.heap.size + 2) (WG m w) w6) := HB5.out.trans (hb6.mono (by omega))
            have hz6 : w5.heap.size ≤ w6.heap.size := hb6.size
            have hl6' : s'.reps.length ≤ s.reps.length + 1 := hl6
            clear hb6 HR6 hN hl6 hhalt z2 z3
            obtain ⟨o', c', tx', hh', n', st'⟩ := t'
            go_wp2_with (refine wp_turn rfl _ _ rfl w2.heap.size rfl ⟨o', c', tx', hh', n', st'⟩ _ rfl HT6.out rfl ?_; intro u' hT' hB' hK')
            have HT' : Hid (T6At u' w2.heap.size ⟨o', c', tx', hh', n', st'⟩) := hT'
            have HRK : Hid (RunW w3.heap.size b0 b1 b2 b3 u' m.nm m.tl m.ar s' v1' v2') := HRW.out.keep HT6.out hK'
            have HBK : Hid (Below (w.heap.size + 2) (WG m w) u') := HB6.out.trans (hB' _ (by omega))
            have hzu : w6.heap.size ≤ u'.heap.size := (hB' 0 (by omega)).size
            clear hT' hB' hK'
            go_roundw
            case rel => exact ⟨k + 1, ⟨o', c', tx', hh', n', st'⟩, s', v1', v2', by go_num, by omega, HG', HT', HRK, HO6, by omega, HBK, by omega⟩
            case measure => simp [intOf]; omega
        · have hne' : ¬ xn.toList = n.toList := fun h => hne ((M.ba_iff _ _).1 h)
          have HZ : Hid (goL m.tl m.ar (turn0 m.tl) rs0 ls = zeroT) := by rw [HG.out, HD.out]; exact goL_halt (.inr (.inr (.inl hne)))
          go_wp2_with (refine wp_turn rfl (.tmp 4) (.tmp 49) rfl (w.heap.size + 1) rfl zeroT zeroT rfl (WG_z HBa.out) rfl ?_; intro u' hT' hB' _)
          refine bodyPost_ret (v := zeroT.v) (M.results_blk (P := Tryz.prog) (ty := 30) rfl _ _ (w.heap.size + 1) _ _ rfl hT'.blk Tryz.underlying30 rfl (by kernel_rfl)) rfl ⟨by rw [HZ.out], ?_⟩
          exact ((WG_below m w).trans (HBa.out.mono (by omega))).trans (hB' _ (by omega))
      · have HZ : Hid (goL m.tl m.ar (turn0 m.tl) rs0 ls = zeroT) := by rw [HG.out, HD.out]; exact goL_halt (.inr (.inl hhe))
        go_wp2_with (refine wp_turn rfl (.tmp 4) (.tmp 49) rfl (w.heap.size + 1) rfl zeroT zeroT rfl (WG_z HBa.out) rfl ?_; intro u' hT' hB' _)
        refine bodyPost_ret (v := zeroT.v) (M.results_blk (P := Tryz.prog) (ty := 30) rfl _ _ (w.heap.size + 1) _ _ rfl hT'.blk Tryz.underlying30 rfl (by kernel_rfl)) rfl ⟨by rw [HZ.out], ?_⟩
        exact ((WG_below m w).trans (HBa.out.mono (by omega))).trans (hB' _ (by omega))
    · have HZ : Hid (goL m.tl m.ar (turn0 m.tl) rs0 ls = zeroT) := by rw [HG.out, HD.out]; exact goL_halt (.inl rfl)
      go_wp2_with (refine wp_turn rfl (.tmp 4) (.tmp 49) rfl (w.heap.size + 1) rfl zeroT zeroT rfl (WG_z HBa.out) rfl ?_; intro u' hT' hB' _)
      refine bodyPost_ret (v := zeroT.v) (M.results_blk (P := Tryz.prog) (ty := 30) rfl _ _ (w.heap.size + 1) _ _ rfl hT'.blk Tryz.underlying30 rfl (by kernel_rfl)) rfl ⟨by rw [HZ.out], ?_⟩
      exact ((WG_below m w).trans (HBa.out.mono (by omega))).trans (hB' _ (by omega))
  · have hke : k = ls.length := by omega
    have HZ : Hid (goL m.tl m.ar (turn0 m.tl) rs0 ls = ⟨o, c, tx, hh, n, st⟩) := by
     rw [HG.out, hke, List.drop_eq_nil_of_le (Nat.le_refl _)]; rfl
    subst hke
    go_wp2_with (refine wp_turn rfl _ _ rfl (w.heap.size + 1) rfl ⟨o, c, tx, hh, n, st⟩ zeroT rfl (WG_z HBr.out) rfl ?_; intro u' hT' hB' _)
    refine bodyPost_ret (v := TN.v ⟨o, c, tx, hh, n, st⟩) (M.results_blk (P := Tryz.prog) (ty := 30) rfl _ _ (w.heap.size + 1) _ _ rfl hT'.blk Tryz.underlying30 rfl (by kernel_rfl)) rfl ⟨by rw [HZ.out], ?_⟩
    exact ((WG_below m w).trans (HBr.out.mono (by omega))).trans (hB' _ (by omega))
end Go.Proofs.YtpjpckmfehfniaaGreatDoor
