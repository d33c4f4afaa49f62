import Derived.Test.YtlfokigiejcfoaaGreatDoorW5
import Derived.Test.YtlfokigiejcfoaaGreatDoorW3
import Derived.Test.YtlfokigiejcfoaaGreatDoorB3
import Derived.Test.YtlfokigiejcfoaaGreatDoorWZ
namespace Go.Proofs.YtlfokigiejcfoaaGreatDoor
open Go.RowKit
def bossL (d : Int) (n b lc g hc : Nat) : List Value := [.int .i64 d, .bool true, .int .i64 0, .int .i64 1, .int .i64 0, .slice none 0 0, .slice (some ⟨b, 0, none⟩) 1 lc, .slice none 0 0, .int .i64 d, .slice none 0 0, .slice none 0 0, .slice (some ⟨g, 0, none⟩) n hc, .slice none 0 0, .slice none 0 0, .slice none 0 0]
def bossZ : List Value := [.int .i64 0, .bool false, .int .i64 0, .int .i64 0, .int .i64 0, .slice none 0 0, .slice none 0 0, .slice none 0 0, .int .i64 0, .slice none 0 0, .slice none 0 0, .slice none 0 0, .slice none 0 0, .slice none 0 0, .slice none 0 0]
def worldL (d : Int) (n : Nat) (key : ByteArray) (b lc g hc h wc : Nat) : List Value := .string key :: (bossL d n b lc g hc ++ [.slice (some ⟨h, 0, none⟩) n wc, .slice none 0 0, .string ⟨#[]⟩, .slice none 0 0])
def worldZ : List Value := .string ⟨#[]⟩ :: (bossZ ++ [.slice none 0 0, .slice none 0 0, .string ⟨#[]⟩, .slice none 0 0])
/-- What a new world owns. -/
structure NW (u : World) (base n b g h : Nat) : Prop where
  nb : NB u base n b g
  h1 : base ≤ h
  rw : RW u h n
  fh : ∀ i, u.frozen? ⟨h, i, none⟩ = false
  hb : h ≠ b
  hg : h ≠ g
theorem NW.below {u u' : World} {N base n b g h : Nat} (x : NW u base n b g h) (k : Below N u u') (hN : b < N ∧ g < N ∧ h < N) : NW u' base n b g h :=
  ⟨x.nb.below' k ⟨hN.1, hN.2.1⟩, x.h1, x.rw.below k hN.2.2, fun i => (k.frozen (p := ⟨h, i, none⟩) hN.2.2).trans (x.fh i), x.hb, x.hg⟩
theorem blk_sub {u : World} {B k : Nat} (pre cs post : List Value) (h : M.BlkAt u B (pre ++ (cs ++ post))) (hk : pre.length = k) : ∀ j v, cs[j]? = some v → u.cell? ((⟨B, k, none⟩ : Addr).add j) = some v := fun j v hv => by
  rw [M.adr_add]
  refine h (k + j) v ?_
  have hj := (List.getElem?_eq_some_iff.1 hv).1
  rw [List.getElem?_append_right (by omega), List.getElem?_append_left (by omega), ← hv]
  congr 1
  omega
theorem wpList_load_at {P : Program} {ops : Array Oper} {rest : List Oper} {o : Oper} {a : Act} {w : World} {Q : Exit → Act → World → Prop} (hgd : o.guard = none) (ty : TypeId) (x : Operand) (ho : o.op = .load ty x)
    (ad : Addr) (hx : a.eval x = .pointer (some ad)) (cs : List Value) (d : TypeDesc) (hc : ∀ j v, cs[j]? = some v → w.cell? (ad.add j) = some v)
    (hu : P.underlying ty = some d) (hd : (match d with | .struct _ | .array _ _ => true | _ => false) = true) (hi : (P.info? ty).map (·.size) = some cs.length)
    (h : wpList P ops Q rest (a.put o.dst (.agg cs.toArray)) w) : wpList P ops Q (o :: rest) a w := by
  refine wpList_plain hgd fun K hK => ?_
  unfold Oper.wp
  rw [load_op ho hx (run_loadVar_at w ad ty cs d hc hu hd hi)]
  exact hK _ _ h
set_option maxHeartbeats 8000000 in
set_option maxRecDepth 100000 in
theorem c6w (d : Int) (n : Nat) (key : ByteArray) (b lc g hc h wc b' lc' g' hc' h' wc' base base' : Nat) (w : World) (hn : n ≤ 4) (hx : NW w base n b g h) (hy : NW w base' n b' g' h') : Calls Tryz.prog 6 #[.agg (worldL d n key b lc g hc h wc).toArray, .agg (worldL d n key b' lc' g' hc' h' wc').toArray] w fun e w' => e = .returned (.bool true) ∧ Below w.heap.size w w' := by
  have hB0 : Below w.heap.size w ((w.alloc (.cells (worldL d n key b lc g hc h wc).toArray 40)).alloc (.cells (worldL d n key b' lc' g' hc' h' wc').toArray 40)) := ((Below.refl _ _).alloc (Nat.le_refl _) _).alloc (by simp) _
  have hz0 : ((w.alloc (.cells (worldL d n key b lc g hc h wc).toArray 40)).alloc (.cells (worldL d n key b' lc' g' hc' h' wc').toArray 40)).heap.size = w.heap.size + 2 := by simp
  have ZA := hidI ((M.blk_new w (worldL d n key b lc g hc h wc) 40).below ((Below.refl _ _).alloc (Nat.le_refl _) (.cells (worldL d n key b' lc' g' hc' h' wc').toArray 40)) (by simp))
  have ZB : Hid (M.BlkAt ((w.alloc (.cells (worldL d n key b lc g hc h wc).toArray 40)).alloc (.cells (worldL d n key b' lc' g' hc' h' wc').toArray 40)) (w.heap.size + 1) (worldL d n key b' lc' g' hc' h' wc')) := fun j x hx => by simp [go_sem, hx]
  have NX := hidI (hx.below hB0 ⟨hx.nb.b2, hx.nb.g2, hx.rw.lt⟩)
  have NY := hidI (hy.below hB0 ⟨hy.nb.b2, hy.nb.g2, hy.rw.lt⟩)
  clear hx hy
  go_enter Tryz.func6, Tryz.ntmps6
  have a0 := ZA.out 0 _ rfl
  have b0 := ZB.out 0 _ rfl
  go_wp2_with (first | refine wpList_load_at rfl 35 (.tmp 10) rfl ⟨w.heap.size, 1, none⟩ rfl (bossL d n b lc g hc) _ (blk_sub [.string key] (bossL d n b lc g hc) _ ZA.out rfl) Tryz.underlying35 rfl (by kernel_rfl) ?_ | refine wpList_load_at rfl 35 (.tmp 12) rfl ⟨w.heap.size + 1, 1, none⟩ rfl (bossL d n b' lc' g' hc') _ (blk_sub [.string key] (bossL d n b' lc' g' hc') _ ZB.out rfl) Tryz.underlying35 rfl (by kernel_rfl) ?_)
  clear a0 b0
  generalize ((w.alloc (.cells (worldL d n key b lc g hc h wc).toArray 40)).alloc (.cells (worldL d n key b' lc' g' hc' h' wc').toArray 40)) = u at *
  have hu : Below u.heap.size u u := Below.refl _ _
  refine (c12n n d b b' g g' lc lc' hc hc' u (by omega) NX.out.nb.rs NY.out.nb.rs NX.out.nb.ri NY.out.nb.ri).mono ?_
  rintro e w1 ⟨rfl, hb1⟩
  have h1 := hb1
  have a16 := (ZA.out.below h1 (by omega)) 16 _ rfl
  have b16 := (ZB.out.below h1 (by omega)) 16 _ rfl
  go_wp2_with fail
  clear a16 b16
  refine (c13 n h h' wc wc' w1 (by omega) (NX.out.rw.below h1 NX.out.rw.lt) (NY.out.rw.below h1 NY.out.rw.lt)).mono ?_
  rintro e w2 ⟨rfl, hb2⟩
  have h2 := h1.trans (hb2.mono h1.size)
  have a17 := (ZA.out.below h2 (by omega)) 17 _ rfl
  have b17 := (ZB.out.below h2 (by omega)) 17 _ rfl
  go_wp2_with fail
  clear a17 b17
  refine (c14z none none 0 0 w2).mono ?_
  rintro e w3 ⟨rfl, hb3⟩
  have h3 := h2.trans (hb3.mono h2.size)
  have a18 := (ZA.out.below h3 (by omega)) 18 _ rfl
  have b18 := (ZB.out.below h3 (by omega)) 18 _ rfl
  have a19 := (ZA.out.below h3 (by omega)) 19 _ rfl
  have b19 := (ZB.out.below h3 (by omega)) 19 _ rfl
  go_wp2_with fail
  clear a18 b18 a19 b19
  refine (c15z none none 0 0 w3).mono ?_
  rintro e w4 ⟨rfl, hb4⟩
  have h4 := h3.trans (hb4.mono h3.size)
  go_wp2
  go_ret
  exact ⟨rfl, hB0.trans (h4.mono hB0.size)⟩
set_option maxHeartbeats 8000000 in
set_option maxRecDepth 100000 in
theorem c6wz (w : World) : Calls Tryz.prog 6 #[.agg worldZ.toArray, .agg worldZ.toArray] w fun e w' => e = .returned (.bool true) ∧ Below w.heap.size w w' := by
  have hB0 : Below w.heap.size w ((w.alloc (.cells worldZ.toArray 40)).alloc (.cells worldZ.toArray 40)) := ((Below.refl _ _).alloc (Nat.le_refl _) _).alloc (by simp) _
  have hz0 : ((w.alloc (.cells worldZ.toArray 40)).alloc (.cells worldZ.toArray 40)).heap.size = w.heap.size + 2 := by simp
  have ZA := hidI ((M.blk_new w worldZ 40).below ((Below.refl _ _).alloc (Nat.le_refl _) (.cells worldZ.toArray 40)) (by simp))
  have ZB : Hid (M.BlkAt ((w.alloc (.cells worldZ.toArray 40)).alloc (.cells worldZ.toArray 40)) (w.heap.size + 1) worldZ) := fun j x hx => by simp [go_sem, hx]
  go_enter Tryz.func6, Tryz.ntmps6
  have a0 := ZA.out 0 _ rfl
  have b0 := ZB.out 0 _ rfl
  go_wp2_with (first | refine wpList_load_at rfl 35 (.tmp 10) rfl ⟨w.heap.size, 1, none⟩ rfl bossZ _ (blk_sub [.string ⟨#[]⟩] bossZ _ ZA.out rfl) Tryz.underlying35 rfl (by kernel_rfl) ?_ | refine wpList_load_at rfl 35 (.tmp 12) rfl ⟨w.heap.size + 1, 1, none⟩ rfl bossZ _ (blk_sub [.string ⟨#[]⟩] bossZ _ ZB.out rfl) Tryz.underlying35 rfl (by kernel_rfl) ?_)
  clear a0 b0
  generalize ((w.alloc (.cells worldZ.toArray 40)).alloc (.cells worldZ.toArray 40)) = u at *
  have hu : Below u.heap.size u u := Below.refl _ _
  refine (c12 0 0 0 false [] [] none none none none 0 0 0 0 u (by decide) (by decide) (.inl rfl) (.inl rfl) (.inl rfl) (.inl rfl)).mono ?_
  rintro e w1 ⟨rfl, hb1⟩
  have h1 := hb1
  have a16 := (ZA.out.below h1 (by omega)) 16 _ rfl
  have b16 := (ZB.out.below h1 (by omega)) 16 _ rfl
  go_wp2_with fail
  clear a16 b16
  refine (c13z none none 0 0 w1).mono ?_
  rintro e w2 ⟨rfl, hb2⟩
  have h2 := h1.trans (hb2.mono h1.size)
  have a17 := (ZA.out.below h2 (by omega)) 17 _ rfl
  have b17 := (ZB.out.below h2 (by omega)) 17 _ rfl
  go_wp2_with fail
  clear a17 b17
  refine (c14z none none 0 0 w2).mono ?_
  rintro e w3 ⟨rfl, hb3⟩
  have h3 := h2.trans (hb3.mono h2.size)
  have a18 := (ZA.out.below h3 (by omega)) 18 _ rfl
  have b18 := (ZB.out.below h3 (by omega)) 18 _ rfl
  have a19 := (ZA.out.below h3 (by omega)) 19 _ rfl
  have b19 := (ZB.out.below h3 (by omega)) 19 _ rfl
  go_wp2_with fail
  clear a18 b18 a19 b19
  refine (c15z none none 0 0 w3).mono ?_
  rintro e w4 ⟨rfl, hb4⟩
  have h4 := h3.trans (hb4.mono h3.size)
  go_wp2
  go_ret
  exact ⟨rfl, hB0.trans (h4.mono hB0.size)⟩
end Go.Proofs.YtlfokigiejcfoaaGreatDoor
