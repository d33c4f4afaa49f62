import Derived.Test.YtboojefodbjbcaaGreatDoorZR00
import Derived.Test.YtboojefodbjbcaaGreatDoorZR24
import Derived.Test.YtboojefodbjbcaaGreatDoorZR29
import Derived.Test.YtboojefodbjbcaaGreatDoorRO
import Derived.Test.YtboojefodbjbcaaGreatDoorZR21
namespace Go.Proofs.YtboojefodbjbcaaGreatDoor
open Go.RowKit
set_option maxRecDepth 100000
set_option linter.unusedVariables false
set_option maxHeartbeats 2000000 in
theorem c14 (ov : Bool) (cd : Int) (tx : ByteArray) (has : Bool) (nm : ByteArray) (st : Int) (w : World) :
 Calls Tryz.prog 14 #[.agg #[.bool ov, .int .i64 cd, .string tx, .bool has, .string nm, .int .i64 st], .agg #[.bool ov, .int .i64 cd, .string tx, .bool has, .string nm, .int .i64 st]] w fun e w' => e = .returned (.bool true) ∧ Below w.heap.size w w' := by
 have hB0 : ∀ o p, Below w.heap.size w ((w.alloc o).alloc p) := fun o p => ((Below.refl _ _).alloc (Nat.le_refl _) _).alloc (by simp) _
 go_enter Tryz.func14, Tryz.ntmps14
 go_wp2_with fail
 refine (c51 cd tx _).mono ?_
 rintro e w1 ⟨rfl, hb1⟩
 have hx1 : Below (w.heap.size + 2) ((w.alloc (.cells #[.bool ov, .int .i64 cd, .string tx, .bool has, .string nm, .int .i64 st] 39)).alloc (.cells #[.bool ov, .int .i64 cd, .string tx, .bool has, .string nm, .int .i64 st] 39)) w1 := by have h := hb1; simp at h; exact h
 have hB1 : Below w.heap.size w w1 := (hB0 _ _).trans (hx1.mono (by omega))
 have ZA : BlkAt w1 w.heap.size [.bool ov, .int .i64 cd, .string tx, .bool has, .string nm, .int .i64 st] := fun j v h => (hx1.cell (p := ⟨w.heap.size, j, none⟩) (by show w.heap.size < w.heap.size + 2; omega)).trans (by simp [go_sem, h])
 have ZB : BlkAt w1 (w.heap.size + 1) [.bool ov, .int .i64 cd, .string tx, .bool has, .string nm, .int .i64 st] := fun j v h => (hx1.cell (p := ⟨w.heap.size + 1, j, none⟩) (by show w.heap.size + 1 < w.heap.size + 2; omega)).trans (by simp [go_sem, h])
 clear hb1 hx1
 have a3 := ZA 3 _ rfl
 have b3 := ZB 3 _ rfl
 have a4 := ZA 4 _ rfl
 have b4 := ZB 4 _ rfl
 have a5 := ZA 5 _ rfl
 have b5 := ZB 5 _ rfl
 clear ZA ZB
 go_wp2
 go_ret
 exact ⟨rfl, hB1⟩
set_option maxHeartbeats 4000000 in
theorem c23 (K : Int) (a : Option Addr) (b n cap : Nat) (w : World) (hK1 : 1 ≤ K) (hK2 : K ≤ 50000000000000) (ha : n = 0 ∨ a = some ⟨b, 0, none⟩) (hn : n ≤ 1048576) (hbw : b < w.heap.size) (hm : MarksAt K w b n) :
 Calls Tryz.prog 23 #[.slice a n cap, .int .i64 K] w fun e w' => e = .returned (.int .i64 (K + 4 * (n : Int))) ∧ Below w.heap.size w w' := by
 have HM := hidI hm
 clear hm
 go_enter Tryz.func23, Tryz.ntmps23
 go_wp2_with fail
 go_loopw [1, 5] (fun q i wr => ∃ (k : Nat), k ≤ n ∧ i = .int .i64 k ∧ q = .int .i64 (K + 4 * (k : Int)) ∧ Below w.heap.size w wr) (fun _ i _ => n - (Go.RowKit.intOf i).toNat)
 case atStart => exact ⟨0, Nat.zero_le _, rfl, by simp, Below.refl _ _⟩
 case round =>
  obtain ⟨k, hk, rfl, rfl, hb⟩ := hrel
  by_cases hlt : k < n
  · rcases ha with ha | rfl
    · omega
    obtain ⟨c0, c1, c2, c3⟩ := HM.out k hlt
    have g0 : wr.cell? ⟨b, k * 4, none⟩ = some (.bool ((K + 4 * (k : Int)) % 3 == 0)) := (hb.cell (p := ⟨b, k * 4, none⟩) hbw).trans c0
    have g1 : wr.cell? ⟨b, k * 4 + 1, none⟩ = some (.string (mtx (K + 4 * (k : Int) + 1))) := (hb.cell (p := ⟨b, k * 4 + 1, none⟩) hbw).trans c1
    have g2 : wr.cell? ⟨b, k * 4 + 2, none⟩ = some (.int .i64 (K + 4 * (k : Int) + 1 + 1)) := by
     rw [show K + 4 * (k : Int) + 1 + 1 = K + 4 * (k : Int) + 2 by omega]
     exact (hb.cell (p := ⟨b, k * 4 + 2, none⟩) hbw).trans c2
    have g3 : wr.cell? ⟨b, k * 4 + 3, none⟩ = some (.string (mtx (K + 4 * (k : Int) + 1 + 1 + 1))) := by
     rw [show K + 4 * (k : Int) + 1 + 1 + 1 = K + 4 * (k : Int) + 3 by omega]
     exact (hb.cell (p := ⟨b, k * 4 + 3, none⟩) hbw).trans c3
    have hbl : b < wr.heap.size := Nat.lt_of_lt_of_le hbw hb.size
    have h41 := fun u => c60 (K + 4 * (k : Int) + 1) u (by omega) (by omega)
    have h41' := fun u => c60 (K + 4 * (k : Int) + 1 + 1 + 1) u (by omega) (by omega)
    have em : ofL (109 :: dec (K + 4 * (k : Int) + 1)) = mtx (K + 4 * (k : Int) + 1) := rfl
    have em' : ofL (109 :: dec (K + 4 * (k : Int) + 1 + 1 + 1)) = mtx (K + 4 * (k : Int) + 1 + 1 + 1) := rfl
    rw [em] at h41
    rw [em'] at h41'
    clear em em' c0 c1 c2 c3
    generalize mtx (K + 4 * (k : Int) + 1) = mx at *
    generalize mtx (K + 4 * (k : Int) + 1 + 1 + 1) = my at *
    go_wp2_with fail
    refine wp_region_held_drew (S := (fun u => u.cell? ⟨b, k * 4 + 1, none⟩ = some (.string mx))) (by kernel_rfl) ?_ (fun hHeld => ?_)
    · ((try dsimp only); first | exact g1 | exact (hb1.cell (p := ⟨b, k * 4 + 1, none⟩) hbl).trans g1)
    refine tk (i := 0) (oi := ⟨some 23, .move (.tmp 0), 40, _, _, none⟩) (v := ?_) rfl (by kernel_rfl) rfl ?e hHeld ?_
    case e => intro wq hSw; (try dsimp only at hSw); go_simp; try with_reducible rfl
    try simp only [qq]
    refine tk (i := 1) (oi := ⟨some 24, .move (.tmp 5), 3, _, _, none⟩) (v := ?_) rfl (by kernel_rfl) rfl ?e hHeld ?_
    case e => intro wq hSw; (try dsimp only at hSw); go_simp; try with_reducible rfl
    try simp only [qq]
    refine tk (i := 2) (oi := ⟨some 25, .indexAddr 40 (.tmp 23) (.tmp 24), 0, _, _, none⟩) (v := ?_) rfl (by kernel_rfl) rfl ?e hHeld ?_
    case e => intro wq hSw; (try dsimp only at hSw); go_simp; try with_reducible rfl
    try simp only [qq]
    refine tk (i := 3) (oi := ⟨some 26, .fieldAddr 108 (.tmp 25) 1, 0, _, _, none⟩) (v := ?_) rfl (by kernel_rfl) rfl ?e hHeld ?_
    case e => intro wq hSw; (try dsimp only at hSw); go_simp; try with_reducible rfl
    try simp only [qq]
    refine tk (i := 4) (oi := ⟨some 27, .load 9 (.tmp 26), 9, _, _, none⟩) (v := ?_) rfl (by kernel_rfl) rfl ?e hHeld ?_
    case e => intro wq hSw; (try dsimp only at hSw); go_simp; try with_reducible rfl
    try simp only [qq]
    refine tk (i := 5) (oi := ⟨some 28, .move (.tmp 1), 3, _, _, none⟩) (v := ?_) rfl (by kernel_rfl) rfl ?e hHeld ?_
    case e => intro wq hSw; (try dsimp only at hSw); go_simp; try with_reducible rfl
    try simp only [qq]
    refine rd (i := 6) (o := ⟨some 29, .call ⟨.value (.func 60), #[.tmp 28], #[3]⟩, 9, _, _, none⟩) rfl (by kernel_rfl) (fun K hK => ?_)
    go_simp
    refine (h41 _).mono ?_
    rintro e w1 ⟨rfl, hb0⟩
    have hb1 := (Below.refl wr.heap.size wr).drew.trans hb0
    go_wp2_with fail
    clear hHeld
    refine hK.out _ _ ?_ (fun hHeld => ?_)
    · ((try dsimp only); first | exact g1 | exact (hb1.cell (p := ⟨b, k * 4 + 1, none⟩) hbl).trans g1)
    clear hK K
    try simp only [qq]
    refine tk (i := 7) (oi := ⟨some 30, .binOp .neq 9 (.tmp 27) (.tmp 29) 9, 4, _, _, none⟩) (v := ?_) rfl (by kernel_rfl) rfl ?e hHeld ?_
    case e => intro wq hSw; (try dsimp only at hSw); go_simp; try with_reducible rfl
    try simp only [qq]
    refine wpAnyH_done (by kernel_rfl) ?_ _
    have i2 := (hb1.cell (p := ⟨b, k * 4 + 2, none⟩) hbl).trans g2
    have i3 := (hb1.cell (p := ⟨b, k * 4 + 3, none⟩) hbl).trans g3
    have hbl1 : b < w1.heap.size := Nat.lt_of_lt_of_le hbl hb1.size
    clear g0 g1 g2 g3 h41
    go_wp2_with fail
    refine wp_region_held_drew (S := (fun u => u.cell? ⟨b, k * 4 + 3, none⟩ = some (.string my))) (by kernel_rfl) ?_ (fun hHeld => ?_)
    · ((try dsimp only); first | exact i3 | exact (hb2.cell (p := ⟨b, k * 4 + 3, none⟩) hbl1).trans i3)
    refine tk (i := 0) (oi := ⟨some 43, .move (.tmp 0), 40, _, _, none⟩) (v := ?_) rfl (by kernel_rfl) rfl ?e hHeld ?_
    case e => intro wq hSw; (try dsimp only at hSw); go_simp; try with_reducible rfl
    try simp only [qq]
    refine tk (i := 1) (oi := ⟨some 44, .move (.tmp 5), 3, _, _, none⟩) (v := ?_) rfl (by kernel_rfl) rfl ?e hHeld ?_
    case e => intro wq hSw; (try dsimp only at hSw); go_simp; try with_reducible rfl
    try simp only [qq]
    refine tk (i := 2) (oi := ⟨some 45, .indexAddr 40 (.tmp 43) (.tmp 44), 0, _, _, none⟩) (v := ?_) rfl (by kernel_rfl) rfl ?e hHeld ?_
    case e => intro wq hSw; (try dsimp only at hSw); go_simp; try with_reducible rfl
    try simp only [qq]
    refine tk (i := 3) (oi := ⟨some 46, .fieldAddr 108 (.tmp 45) 2, 0, _, _, none⟩) (v := ?_) rfl (by kernel_rfl) rfl ?e hHeld ?_
    case e => intro wq hSw; (try dsimp only at hSw); go_simp; try with_reducible rfl
    try simp only [qq]
    refine tk (i := 4) (oi := ⟨some 47, .fieldAddr 37 (.tmp 46) 1, 0, _, _, none⟩) (v := ?_) rfl (by kernel_rfl) rfl ?e hHeld ?_
    case e => intro wq hSw; (try dsimp only at hSw); go_simp; try with_reducible rfl
    try simp only [qq]
    refine tk (i := 5) (oi := ⟨some 48, .load 9 (.tmp 47), 9, _, _, none⟩) (v := ?_) rfl (by kernel_rfl) rfl ?e hHeld ?_
    case e => intro wq hSw; (try dsimp only at hSw); go_simp; try with_reducible rfl
    try simp only [qq]
    refine tk (i := 6) (oi := ⟨some 49, .move (.tmp 1), 3, _, _, none⟩) (v := ?_) rfl (by kernel_rfl) rfl ?e hHeld ?_
    case e => intro wq hSw; (try dsimp only at hSw); go_simp; try with_reducible rfl
    try simp only [qq]
    refine rd (i := 7) (o := ⟨some 50, .call ⟨.value (.func 60), #[.tmp 49], #[3]⟩, 9, _, _, none⟩) rfl (by kernel_rfl) (fun K hK => ?_)
    go_simp
    refine (h41' _).mono ?_
    rintro e w2 ⟨rfl, hb20⟩
    have hb2 := (Below.refl w1.heap.size w1).drew.trans hb20
    go_wp2_with fail
    clear hHeld
    refine hK.out _ _ ?_ (fun hHeld => ?_)
    · ((try dsimp only); first | exact i3 | exact (hb2.cell (p := ⟨b, k * 4 + 3, none⟩) hbl1).trans i3)
    clear hK K
    try simp only [qq]
    refine tk (i := 8) (oi := ⟨some 51, .binOp .neq 9 (.tmp 48) (.tmp 50) 9, 4, _, _, none⟩) (v := ?_) rfl (by kernel_rfl) rfl ?e hHeld ?_
    case e => intro wq hSw; (try dsimp only at hSw); go_simp; try with_reducible rfl
    try simp only [qq]
    refine wpAnyH_done (by kernel_rfl) ?_ _
    go_wp2
    go_roundw
    case rel => exact ⟨k + 1, by omega, by go_num, by go_num, (hb.trans (hb1.mono hb.size)).trans (hb2.mono (hb.trans (hb1.mono hb.size)).size)⟩
    case measure => simp [Go.RowKit.intOf]; omega
  · obtain rfl : k = n := by omega
    go_wp2
    go_ret
    exact ⟨rfl, hb⟩
set_option maxHeartbeats 2000000 in
theorem c59 (K : Int) (a : Option Addr) (b n cap : Nat) (w : World) (hK1 : 1 ≤ K) (hK2 : K ≤ 50000000000000) (ha : n = 0 ∨ a = some ⟨b, 0, none⟩) (hn : n ≤ 1048576) (ho : Opn w b (n * 2)) :
 Calls Tryz.prog 59 #[.slice a n cap, .int .i64 K] w fun e w' => e = .returned (.int .i64 (K + 2 * (n : Int))) ∧ But b w w' := by
 have HO := hidI ho
 clear ho
 go_enter Tryz.func59, Tryz.ntmps59
 go_wp2_with fail
 go_loopw [1, 5] (fun q i wr => ∃ (k : Nat), k ≤ n ∧ i = .int .i64 k ∧ q = .int .i64 (K + 2 * (k : Int)) ∧ But b w wr ∧ Hid (Opn wr b (n * 2))) (fun _ i _ => n - (Go.RowKit.intOf i).toNat)
 case atStart => exact ⟨0, Nat.zero_le _, rfl, by simp, But.refl _ _, HO⟩
 case round =>
  obtain ⟨k, hk, rfl, rfl, hb, hop⟩ := hrel
  by_cases hlt : k < n
  · rcases ha with ha | rfl
    · omega
    go_wp2_with fail
    refine (c60 _ _ (by omega) (by omega)).mono ?_
    rintro e w1 ⟨rfl, hb1⟩
    have HO1 := hidI (hop.out.below hb1)
    have hB1 : But b w w1 := hb.trans (But.of_below hb1)
    obtain ⟨v0, g0⟩ := HO1.out.2.1 (k * 2) (by omega)
    have f0 := HO1.out.2.2 (k * 2)
    clear hb1 hb hop
    go_wp2_with fail
    refine (c60 _ _ (by omega) (by omega)).mono ?_
    rintro e w2 ⟨rfl, hb2⟩
    have HO2 := hidI (HO1.out.set.below hb2)
    have hB2 := (hB1.setCell _ _).trans (But.of_below hb2)
    obtain ⟨v1, g1⟩ := HO2.out.2.1 (k * 2 + 1) (by omega)
    have f1 := HO2.out.2.2 (k * 2 + 1)
    clear hb2 HO1 hB1 g0 f0
    go_wp2
    go_roundw
    case rel => exact ⟨k + 1, by omega, by go_num, by go_num, hB2.setCell _ _, HO2.out.set⟩
    case measure => simp [Go.RowKit.intOf]; omega
  · obtain rfl : k = n := by omega
    go_wp2
    go_ret
    exact ⟨rfl, hb⟩
set_option maxHeartbeats 1000000 in
theorem c20 (K : Int) (a : Option Addr) (b n cap : Nat) (w : World) (hK1 : 1 ≤ K) (hK2 : K ≤ 50000000000000) (ha : n = 0 ∨ a = some ⟨b, 0, none⟩) (hn : n ≤ 1048576) (ho : Opn w b (n * 2)) :
 Calls Tryz.prog 20 #[.agg #[.slice a n cap], .int .i64 K] w fun e w' => e = .returned (.int .i64 (K + 2 * (n : Int))) ∧ But b w w' := by
 have hB0 : ∀ o, Below w.heap.size w (w.alloc o) := fun o => (Below.refl _ _).alloc (Nat.le_refl _) _
 go_enter Tryz.func20, Tryz.ntmps20
 go_wp2_with fail
 refine (c59 K a b n cap _ hK1 hK2 ha hn (ho.below (hB0 _))).mono ?_
 rintro e w1 ⟨rfl, hb1⟩
 have hB : But b w w1 := (But.of_below (hB0 _)).trans hb1
 go_wp2
 go_ret
 exact ⟨rfl, hB⟩
structure DM (g S n : Nat) (w X : World) : Prop where
 op : Opn X g (n * 8)
 dd : ∀ i, i < n → ∃ gi m c, g < gi ∧ gi < S ∧ X.cell? ⟨g, i * 8 + 5, none⟩ = some (.slice (some ⟨gi, 0, none⟩) m c) ∧ m ≤ 1048576 ∧ Opn X gi (m * 4)
 ch : Chg (fun k => g ≤ k ∧ k < S) w X
 gs : g < S
theorem chg_set {F : Nat → Prop} {X : World} {p : Addr} {v : Value} (h : F p.block) : Chg F X (X.setCell p v) := by
 have k := (Below.refl p.block X).setCell (p := p) (Nat.le_refl _) v
 exact ⟨k.os, k.tape, k.output, k.size, fun i hi hn => Below.heap_setCell _ _ _ _ (fun e => hn (e ▸ h))⟩
theorem chg_but {F : Nat → Prop} {X Y : World} {b : Nat} (hb : But b X Y) (h : F b) : Chg F X Y := ⟨hb.os, hb.tape, hb.output, hb.size, fun i hi hn => hb.block i hi (fun e => hn (e ▸ h))⟩
theorem DM.set {g S n : Nat} {w X : World} {j : Nat} {v : Value} (h : DM g S n w X) (hj : j % 8 ≠ 5) : DM g S n w (X.setCell ⟨g, j, none⟩ v) :=
 ⟨h.op.set, fun i hi => by
  obtain ⟨gi, m, c, h1, h2, h3, h4, h5⟩ := h.dd i hi
  exact ⟨gi, m, c, h1, h2, by rw [World.cell?_setCell_other _ _ _ _ (adr_ne (by omega))]; exact h3, h4, h5.set⟩, h.ch.trans (chg_set ⟨Nat.le_refl _, h.gs⟩), h.gs⟩
theorem DM.below {g S n : Nat} {w X Y : World} (h : DM g S n w X) (hb : Below X.heap.size X Y) : DM g S n w Y :=
 ⟨h.op.below hb, fun i hi => by
  obtain ⟨gi, m, c, h1, h2, h3, h4, h5⟩ := h.dd i hi
  exact ⟨gi, m, c, h1, h2, (hb.cell (p := ⟨g, i * 8 + 5, none⟩) h.op.1).trans h3, h4, h5.below hb⟩, h.ch.trans (chg_below hb), h.gs⟩
theorem opn_but {b g c : Nat} {X Y : World} (h : Opn X g c) (hb : But b X Y) (hne : g ≠ b) : Opn Y g c := by
 have e : ∀ p : Addr, p.block = g → Y.cell? p = X.cell? p := fun p hp => hb.cell (by rw [hp]; exact h.1) (by rw [hp]; exact hne)
 refine ⟨Nat.lt_of_lt_of_le h.1 hb.size, fun j hj => by rw [e ⟨g, j, none⟩ rfl]; exact h.2.1 j hj, fun j => ?_⟩
 have f := h.2.2 j
 unfold World.frozen? at f ⊢
 rw [hb.block g h.1 hne]
 exact f
theorem DM.marks {g S n gj : Nat} {w X Y : World} (h : DM g S n w X) (h1 : g < gj) (h2 : gj < S) (hb : But gj X Y) (hk : ∀ c, Opn X gj c → Opn Y gj c) : DM g S n w Y :=
 ⟨opn_but h.op hb (by omega), fun i hi => by
  obtain ⟨gi, m, c, h1, h2, h3, h4, h5⟩ := h.dd i hi
  refine ⟨gi, m, c, h1, h2, (hb.cell (p := ⟨g, i * 8 + 5, none⟩) h.op.1 (by show g ≠ gj; omega)).trans h3, h4, ?_⟩
  by_cases e : gi = gj
  · subst e; exact hk _ h5
  · exact opn_but h5 hb e, h.ch.trans (chg_but hb ⟨by omega, h2⟩), h.gs⟩
set_option maxHeartbeats 4000000 in
theorem c21 (K : Int) (a : Option Addr) (g S n cap : Nat) (w : World) (hK1 : 1 ≤ K) (hK2 : K ≤ 10000000) (ha : n = 0 ∨ a = some ⟨g, 0, none⟩) (hn : n ≤ 1048576) (hd : DM g S n w w) :
 Calls Tryz.prog 21 #[.slice a n cap, .int .i64 K] w fun e w' => (∃ r : Int, e = .returned (.int .i64 r) ∧ 1 ≤ r ∧ r ≤ 50000000000000) ∧ Chg (fun k => g ≤ k ∧ k < S) w w' := by
 have HD := hidI hd
 clear hd
 go_enter Tryz.func21, Tryz.ntmps21
 go_wp2_with fail
 go_loopw [1, 5] (fun q i wr => ∃ (k : Nat) (C : Int), k ≤ n ∧ i = .int .i64 k ∧ q = .int .i64 C ∧ 1 ≤ C ∧ C ≤ 10000000 + 4200000 * (k : Int) ∧ Hid (DM g S n w wr)) (fun _ i _ => n - (Go.RowKit.intOf i).toNat)
 case atStart => exact ⟨0, K, Nat.zero_le _, rfl, rfl, hK1, by omega, HD⟩
 case round =>
  obtain ⟨k, C, hk, rfl, rfl, hC1, hC2, hdm⟩ := hrel
  by_cases hlt : k < n
  · rcases ha with ha | rfl
    · omega
    go_wp2_with fail
    refine (c60 _ _ (by omega) (by omega)).mono ?_
    rintro e w1 ⟨rfl, hb1⟩
    have H1 := hidI (hdm.out.below hb1)
    obtain ⟨v0, g0⟩ := H1.out.op.2.1 (k * 8) (by omega)
    have f0 := H1.out.op.2.2 (k * 8)
    have S0 := hidI (H1.out.set (j := k * 8) (v := .string (ofL (109 :: dec C))) (by omega))
    obtain ⟨v1, g1⟩ := S0.out.op.2.1 (k * 8 + 1) (by omega)
    have f1 := S0.out.op.2.2 (k * 8 + 1)
    have S1 := hidI (S0.out.set (j := k * 8 + 1) (v := .bool ((C + 1) % 3 == 0)) (by omega))
    clear hb1 hdm H1 S0
    go_wp2_with fail
    refine (c60 _ _ (by omega) (by omega)).mono ?_
    rintro e w2 ⟨rfl, hb2⟩
    have H2 := hidI (S1.out.below hb2)
    obtain ⟨v2, g2⟩ := H2.out.op.2.1 (k * 8 + 2) (by omega)
    have f2 := H2.out.op.2.2 (k * 8 + 2)
    have S2 := hidI (H2.out.set (j := k * 8 + 2) (v := .string (ofL (109 :: dec (C + 1 + 1)))) (by omega))
    clear hb2 S1 H2 g0 f0 g1 f1
    go_wp2_with fail
    refine (c60 _ _ (by omega) (by omega)).mono ?_
    rintro e w3 ⟨rfl, hb3⟩
    have H3 := hidI (S2.out.below hb3)
    obtain ⟨v3, g3⟩ := H3.out.op.2.1 (k * 8 + 3) (by omega)
    have f3 := H3.out.op.2.2 (k * 8 + 3)
    have S3 := hidI (H3.out.set (j := k * 8 + 3) (v := .string (ofL (109 :: dec (C + 1 + 1 + 1)))) (by omega))
    clear hb3 S2 H3 g2 f2
    go_wp2_with fail
    refine (c60 _ _ (by omega) (by omega)).mono ?_
    rintro e w4 ⟨rfl, hb4⟩
    have H4 := hidI (S3.out.below hb4)
    obtain ⟨v4, g4⟩ := H4.out.op.2.1 (k * 8 + 4) (by omega)
    have f4 := H4.out.op.2.2 (k * 8 + 4)
    have S4 := hidI (H4.out.set (j := k * 8 + 4) (v := .string (ofL (109 :: dec (C + 1 + 1 + 1 + 1)))) (by omega))
    obtain ⟨gi, m, c, e1, e2, e3, e4, e5⟩ := S4.out.dd k hlt
    clear hb4 S3 H4 g3 f3
    go_wp2_with fail
    refine (c22 _ _ gi m c _ (by omega) (by omega) (.inr rfl) e4 e5).mono ?_
    rintro e w5 ⟨rfl, hB5, _, _, hK5⟩
    have H5 := hidI (S4.out.marks e1 e2 hB5 hK5)
    obtain ⟨v6, g6⟩ := H5.out.op.2.1 (k * 8 + 6) (by omega)
    have f6 := H5.out.op.2.2 (k * 8 + 6)
    have S6 := hidI (H5.out.set (j := k * 8 + 6) (v := .int .i64 (C + 1 + 1 + 1 + 1 + 1 + 4 * (m : Int))) (by omega))
    clear S4 H5 g4 f4 e3 e5 hB5 hK5
    go_wp2_with fail
    refine (c60 _ _ (by omega) (by omega)).mono ?_
    rintro e w7 ⟨rfl, hb7⟩
    have H7 := hidI (S6.out.below hb7)
    obtain ⟨v7, g7⟩ := H7.out.op.2.1 (k * 8 + 7) (by omega)
    have f7 := H7.out.op.2.2 (k * 8 + 7)
    have S7 := hidI (H7.out.set (j := k * 8 + 7) (v := .string (ofL (109 :: dec (C + 1 + 1 + 1 + 1 + 1 + 4 * (m : Int) + 1)))) (by omega))
    clear hb7 S6 H7 g6 f6
    go_wp2
    go_roundw
    case rel => exact ⟨k + 1, _, by omega, by go_num, rfl, by omega, by omega, S7⟩
    case measure => simp [Go.RowKit.intOf]; omega
  · obtain rfl : k = n := by omega
    go_wp2
    go_ret
    exact ⟨⟨C, rfl, hC1, by omega⟩, hdm.out.ch⟩
end Go.Proofs.YtboojefodbjbcaaGreatDoor
