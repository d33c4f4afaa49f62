import Derived.Test.YtdcgjdgpiogdaaaGreatDoorYT
import Derived.Test.YtdcgjdgpiogdaaaGreatDoorYF
namespace Go.Proofs.YtdcgjdgpiogdaaaGreatDoor
open Go.RowKit
set_option maxHeartbeats 16000000 in
set_option maxRecDepth 100000 in
theorem c15_3 (x : G16) (key : ByteArray) (ai : Option Addr) (ci : Nat) (w : World) (hp : Pow w) (hs : x.le 1048576) (hk : key.size ≤ 30) (hok : HereOk x) :
    Calls Tryz.prog 15 #[.agg #[.int .i64 3, .int .i64 x.to, .int .i64 x.fr, .int .i64 x.ep, .int .i64 x.ed, .string x.km.nm, .string x.km.tl, .string x.km.ar, .slice ai x.ls.length ci, .int .i64 x.ct, .bool x.tn.over, .int .i64 x.tn.cd, .string x.tn.tx, .bool x.tn.has, .string x.tn.nm, .int .i64 x.tn.st], .string key] w fun e w' => e = .returned (.string (tagS (ofL (hereL x)) key ++ ofL (hereL x))) ∧ Below w.heap.size w w' := by
  have hB0 : ∀ o, Below w.heap.size w (w.alloc o) := fun o => (Below.refl _ _).alloc (Nat.le_refl _) _
  have HS : Hid (x.le 1048576) := hs
  have HOK : Hid (HereOk x) := hok
  have HP : Hid (Pow w) := hp
  have hd : decide (key.size ≤ 30) = true := by simpa using hk
  have hIx := ix_way3
  have hsf : ∀ (w : World) (a : Addr) (f : Fn) (x y : Array Value) (m : Mode), (store a (.func f x y) m).run Tryz.prog w = stored Tryz.prog w a (.func f x y) m := fun w a f x y m => run_store _ _ _ _ _ rfl
  have r1 : 0 ≤ x.fr := by have := hok.2; omega
  have r2 : x.fr ≤ 1000 := by have := hok.2; omega
  have HE : Hid ((⟨#[104, 101, 114, 101]⟩ : ByteArray) ++ ⟨#[32]⟩ ++ ofL (hereW x) = ofL (hereL x)) := by
    show ofL [104, 101, 114, 101] ++ ofL [32] ++ ofL (hereW x) = _
    rw [cat_ofL, cat_ofL]
    rfl
  have zW : (ofL (hereL x)).size ≤ 15000 := by rw [ofL_size]; exact (here_len hok).1
  have zw : (ofL (hereW x)).size ≤ 15000 := by
    have h := congrArg ByteArray.size HE.out
    simp only [ByteArray.size_append] at h
    omega
  have z8 : (tagS (ofL (hereL x)) key).size = 8 := tag_size _ key hk
  clear hs hok hp
  go_enter Tryz.func15, Tryz.ntmps15
  go_wp2_with fail
  refine (c38_3 x ai ci _ HS.out).mono ?_
  rintro e w1 ⟨⟨r, rfl, hr⟩, hb1⟩
  have hrt : r = true := hr.2 HOK.out
  subst hrt
  have HX1 : Hid (Below (w.heap.size + 1) (w.alloc (.cells #[.int .i64 3, .int .i64 x.to, .int .i64 x.fr, .int .i64 x.ep, .int .i64 x.ed, .string x.km.nm, .string x.km.tl, .string x.km.ar, .slice ai x.ls.length ci, .int .i64 x.ct, .bool x.tn.over, .int .i64 x.tn.cd, .string x.tn.tx, .bool x.tn.has, .string x.tn.nm, .int .i64 x.tn.st] 41)) w1) := by have h := hb1; simp at h; exact h
  have hz0 : w.heap.size < w1.heap.size := by have h := HX1.out.size; simp at h; omega
  have hBw1 : Below w.heap.size w w1 := (hB0 _).trans (HX1.out.mono (by omega))
  have c0_0 : w1.cell? ⟨w.heap.size, 0, none⟩ = some (.int .i64 3) := (HX1.out.cell (p := ⟨w.heap.size, 0, none⟩) (by show w.heap.size < w.heap.size + 1; omega)).trans (by simp [go_sem])
  have c0_1 : w1.cell? ⟨w.heap.size, 1, none⟩ = some (.int .i64 x.to) := (HX1.out.cell (p := ⟨w.heap.size, 1, none⟩) (by show w.heap.size < w.heap.size + 1; omega)).trans (by simp [go_sem])
  have c0_2 : w1.cell? ⟨w.heap.size, 2, none⟩ = some (.int .i64 x.fr) := (HX1.out.cell (p := ⟨w.heap.size, 2, none⟩) (by show w.heap.size < w.heap.size + 1; omega)).trans (by simp [go_sem])
  have c0_3 : w1.cell? ⟨w.heap.size, 3, none⟩ = some (.int .i64 x.ep) := (HX1.out.cell (p := ⟨w.heap.size, 3, none⟩) (by show w.heap.size < w.heap.size + 1; omega)).trans (by simp [go_sem])
  have c0_4 : w1.cell? ⟨w.heap.size, 4, none⟩ = some (.int .i64 x.ed) := (HX1.out.cell (p := ⟨w.heap.size, 4, none⟩) (by show w.heap.size < w.heap.size + 1; omega)).trans (by simp [go_sem])
  have c0_5 : w1.cell? ⟨w.heap.size, 5, none⟩ = some (.string x.km.nm) := (HX1.out.cell (p := ⟨w.heap.size, 5, none⟩) (by show w.heap.size < w.heap.size + 1; omega)).trans (by simp [go_sem])
  have c0_6 : w1.cell? ⟨w.heap.size, 6, none⟩ = some (.string x.km.tl) := (HX1.out.cell (p := ⟨w.heap.size, 6, none⟩) (by show w.heap.size < w.heap.size + 1; omega)).trans (by simp [go_sem])
  have c0_7 : w1.cell? ⟨w.heap.size, 7, none⟩ = some (.string x.km.ar) := (HX1.out.cell (p := ⟨w.heap.size, 7, none⟩) (by show w.heap.size < w.heap.size + 1; omega)).trans (by simp [go_sem])
  have c0_8 : w1.cell? ⟨w.heap.size, 8, none⟩ = some (.slice ai x.ls.length ci) := (HX1.out.cell (p := ⟨w.heap.size, 8, none⟩) (by show w.heap.size < w.heap.size + 1; omega)).trans (by simp [go_sem])
  have c0_9 : w1.cell? ⟨w.heap.size, 9, none⟩ = some (.int .i64 x.ct) := (HX1.out.cell (p := ⟨w.heap.size, 9, none⟩) (by show w.heap.size < w.heap.size + 1; omega)).trans (by simp [go_sem])
  have c0_10 : w1.cell? ⟨w.heap.size, 10, none⟩ = some (.bool x.tn.over) := (HX1.out.cell (p := ⟨w.heap.size, 10, none⟩) (by show w.heap.size < w.heap.size + 1; omega)).trans (by simp [go_sem])
  have c0_11 : w1.cell? ⟨w.heap.size, 11, none⟩ = some (.int .i64 x.tn.cd) := (HX1.out.cell (p := ⟨w.heap.size, 11, none⟩) (by show w.heap.size < w.heap.size + 1; omega)).trans (by simp [go_sem])
  have c0_12 : w1.cell? ⟨w.heap.size, 12, none⟩ = some (.string x.tn.tx) := (HX1.out.cell (p := ⟨w.heap.size, 12, none⟩) (by show w.heap.size < w.heap.size + 1; omega)).trans (by simp [go_sem])
  have c0_13 : w1.cell? ⟨w.heap.size, 13, none⟩ = some (.bool x.tn.has) := (HX1.out.cell (p := ⟨w.heap.size, 13, none⟩) (by show w.heap.size < w.heap.size + 1; omega)).trans (by simp [go_sem])
  have c0_14 : w1.cell? ⟨w.heap.size, 14, none⟩ = some (.string x.tn.nm) := (HX1.out.cell (p := ⟨w.heap.size, 14, none⟩) (by show w.heap.size < w.heap.size + 1; omega)).trans (by simp [go_sem])
  have c0_15 : w1.cell? ⟨w.heap.size, 15, none⟩ = some (.int .i64 x.tn.st) := (HX1.out.cell (p := ⟨w.heap.size, 15, none⟩) (by show w.heap.size < w.heap.size + 1; omega)).trans (by simp [go_sem])
  clear hr hb1 HX1
  go_wp2_with fail
  refine (c39 key _ (by omega)).mono ?_
  rintro e w2 ⟨rfl, hw2⟩
  obtain rfl := hw2.symm
  rw [hd]
  go_wp2_with fail
  refine wp_region_held_drew (S := (fun u => u.cell? ⟨w.heap.size, 0, none⟩ = some (.int .i64 3) ∧ u.cell? ⟨w.heap.size, 1, none⟩ = some (.int .i64 x.to) ∧ u.cell? ⟨w.heap.size, 2, none⟩ = some (.int .i64 x.fr) ∧ u.cell? ⟨w.heap.size, 3, none⟩ = some (.int .i64 x.ep) ∧ u.cell? ⟨w.heap.size, 4, none⟩ = some (.int .i64 x.ed) ∧ u.cell? ⟨w.heap.size, 5, none⟩ = some (.string x.km.nm) ∧ u.cell? ⟨w.heap.size, 6, none⟩ = some (.string x.km.tl) ∧ u.cell? ⟨w.heap.size, 7, none⟩ = some (.string x.km.ar) ∧ u.cell? ⟨w.heap.size, 8, none⟩ = some (.slice ai x.ls.length ci) ∧ u.cell? ⟨w.heap.size, 9, none⟩ = some (.int .i64 x.ct) ∧ u.cell? ⟨w.heap.size, 10, none⟩ = some (.bool x.tn.over) ∧ u.cell? ⟨w.heap.size, 11, none⟩ = some (.int .i64 x.tn.cd) ∧ u.cell? ⟨w.heap.size, 12, none⟩ = some (.string x.tn.tx) ∧ u.cell? ⟨w.heap.size, 13, none⟩ = some (.bool x.tn.has) ∧ u.cell? ⟨w.heap.size, 14, none⟩ = some (.string x.tn.nm) ∧ u.cell? ⟨w.heap.size, 15, none⟩ = some (.int .i64 x.tn.st))) (by kernel_rfl) ?_ (fun hHeld => ?_)
  · ((try dsimp only); go_keep)
  refine wpAnyH_take (i := 1) (oi := { dst := some 17, op := Op.fieldAddr 41 (Operand.tmp 2) 0, type := 0, pos := "l7_mail.go:40", after := #[], guard := none }) (v := ?_) rfl (by kernel_rfl) (by kernel_rfl) (by kernel_rfl) (fun _ _ _ h => h) (Or.inl ⟨by rfl, ?_⟩) (by assumption) ?_
  rotate_left
  · intro wq hSw
    (try dsimp only at hSw)
    go_simp
    try with_reducible rfl
  try simp only [Act.put, List.setIfInBounds_toArray, List.set_cons_zero, List.set_cons_succ]
  refine wpAnyH_take (i := 2) (oi := { dst := some 18, op := Op.load 3 (Operand.tmp 17), type := 3, pos := "l7_mail.go:40", after := #[{ on := 1, ground := Ground.data }], guard := none }) (v := ?_) rfl (by kernel_rfl) (by kernel_rfl) (by kernel_rfl) (fun _ _ _ h => h) (Or.inl ⟨by rfl, ?_⟩) (by assumption) ?_
  rotate_left
  · intro wq hSw
    (try dsimp only at hSw)
    go_simp
    try with_reducible rfl
  try simp only [Act.put, List.setIfInBounds_toArray, List.set_cons_zero, List.set_cons_succ]
  refine wpAnyH_ready (rs := [0, 4]) (by kernel_rfl) (by simp) ?_
  refine AllReadyH.cons (o := { dst := some 16, op := Op.call { callee := Callee.value (Operand.func 40), args := #[], argTypes := #[] }, type := 75, pos := "l7_mail.go:40", after := #[], guard := none }) rfl (fun K hK => ?_) (AllReadyH.cons (o := { dst := some 5, op := Op.alloc 74, type := 0, pos := "l7_mail.go:40", after := #[], guard := none }) rfl (fun K hK => ?_) AllReadyH.nil)
  · go_simp
    refine (c40 _).mono ?_
    rintro e p1 ⟨rfl, hb1⟩
    have HS1 : Hid (Below w1.heap.size w1 p1) := ((Below.refl _ _).drew).trans hb1
    clear hb1
    have c1_0 := (HS1.out.cell (p := ⟨w.heap.size, 0, none⟩) (by exact hz0)).trans c0_0
    have c1_1 := (HS1.out.cell (p := ⟨w.heap.size, 1, none⟩) (by exact hz0)).trans c0_1
    have c1_2 := (HS1.out.cell (p := ⟨w.heap.size, 2, none⟩) (by exact hz0)).trans c0_2
    have c1_3 := (HS1.out.cell (p := ⟨w.heap.size, 3, none⟩) (by exact hz0)).trans c0_3
    have c1_4 := (HS1.out.cell (p := ⟨w.heap.size, 4, none⟩) (by exact hz0)).trans c0_4
    have c1_5 := (HS1.out.cell (p := ⟨w.heap.size, 5, none⟩) (by exact hz0)).trans c0_5
    have c1_6 := (HS1.out.cell (p := ⟨w.heap.size, 6, none⟩) (by exact hz0)).trans c0_6
    have c1_7 := (HS1.out.cell (p := ⟨w.heap.size, 7, none⟩) (by exact hz0)).trans c0_7
    have c1_8 := (HS1.out.cell (p := ⟨w.heap.size, 8, none⟩) (by exact hz0)).trans c0_8
    have c1_9 := (HS1.out.cell (p := ⟨w.heap.size, 9, none⟩) (by exact hz0)).trans c0_9
    have c1_10 := (HS1.out.cell (p := ⟨w.heap.size, 10, none⟩) (by exact hz0)).trans c0_10
    have c1_11 := (HS1.out.cell (p := ⟨w.heap.size, 11, none⟩) (by exact hz0)).trans c0_11
    have c1_12 := (HS1.out.cell (p := ⟨w.heap.size, 12, none⟩) (by exact hz0)).trans c0_12
    have c1_13 := (HS1.out.cell (p := ⟨w.heap.size, 13, none⟩) (by exact hz0)).trans c0_13
    have c1_14 := (HS1.out.cell (p := ⟨w.heap.size, 14, none⟩) (by exact hz0)).trans c0_14
    have c1_15 := (HS1.out.cell (p := ⟨w.heap.size, 15, none⟩) (by exact hz0)).trans c0_15
    clear c0_0 c0_1 c0_2 c0_3 c0_4 c0_5 c0_6 c0_7 c0_8 c0_9 c0_10 c0_11 c0_12 c0_13 c0_14 c0_15
    have hz1 : w.heap.size < p1.heap.size := Nat.lt_of_lt_of_le hz0 HS1.out.size
    go_wp2_with fail
    clear hHeld
    refine hK.out _ _ ?_ (fun hHeld => ?_)
    · ((try dsimp only); go_keep)
    clear hK K
    try simp only [Act.put, List.setIfInBounds_toArray, List.set_cons_zero, List.set_cons_succ]
    refine wpAnyH_take (i := 3) (oi := { dst := some 19, op := Op.index 75 (Operand.tmp 16) (Operand.tmp 18), type := 74, pos := "l7_mail.go:40", after := #[{ on := 0, ground := Ground.data }, { on := 2, ground := Ground.data }], guard := none }) (v := ?_) rfl (by kernel_rfl) (by kernel_rfl) (by kernel_rfl) (fun _ _ _ h => h) (Or.inl ⟨by rfl, ?_⟩) (by assumption) ?_
    rotate_left
    · intro wq hSw
      (try dsimp only at hSw)
      go_simp
      try with_reducible rfl
    try simp only [Act.put, List.setIfInBounds_toArray, List.set_cons_zero, List.set_cons_succ]
    refine wpAnyH_ready (rs := [4]) (by kernel_rfl) (by simp) ?_
    refine AllReadyH.cons (o := { dst := some 5, op := Op.alloc 74, type := 0, pos := "l7_mail.go:40", after := #[], guard := none }) rfl (fun K hK => ?_) AllReadyH.nil
    go_simp
    have HSA : Hid (Below p1.heap.size p1 (p1.alloc (.cells #[.string ⟨#[]⟩, .nilFunc, .nilFunc, .nilFunc] 74))) := (Below.refl _ _).alloc (Nat.le_refl _) _
    have c2_0 := (HSA.out.cell (p := ⟨w.heap.size, 0, none⟩) (by exact hz1)).trans c1_0
    have c2_1 := (HSA.out.cell (p := ⟨w.heap.size, 1, none⟩) (by exact hz1)).trans c1_1
    have c2_2 := (HSA.out.cell (p := ⟨w.heap.size, 2, none⟩) (by exact hz1)).trans c1_2
    have c2_3 := (HSA.out.cell (p := ⟨w.heap.size, 3, none⟩) (by exact hz1)).trans c1_3
    have c2_4 := (HSA.out.cell (p := ⟨w.heap.size, 4, none⟩) (by exact hz1)).trans c1_4
    have c2_5 := (HSA.out.cell (p := ⟨w.heap.size, 5, none⟩) (by exact hz1)).trans c1_5
    have c2_6 := (HSA.out.cell (p := ⟨w.heap.size, 6, none⟩) (by exact hz1)).trans c1_6
    have c2_7 := (HSA.out.cell (p := ⟨w.heap.size, 7, none⟩) (by exact hz1)).trans c1_7
    have c2_8 := (HSA.out.cell (p := ⟨w.heap.size, 8, none⟩) (by exact hz1)).trans c1_8
    have c2_9 := (HSA.out.cell (p := ⟨w.heap.size, 9, none⟩) (by exact hz1)).trans c1_9
    have c2_10 := (HSA.out.cell (p := ⟨w.heap.size, 10, none⟩) (by exact hz1)).trans c1_10
    have c2_11 := (HSA.out.cell (p := ⟨w.heap.size, 11, none⟩) (by exact hz1)).trans c1_11
    have c2_12 := (HSA.out.cell (p := ⟨w.heap.size, 12, none⟩) (by exact hz1)).trans c1_12
    have c2_13 := (HSA.out.cell (p := ⟨w.heap.size, 13, none⟩) (by exact hz1)).trans c1_13
    have c2_14 := (HSA.out.cell (p := ⟨w.heap.size, 14, none⟩) (by exact hz1)).trans c1_14
    have c2_15 := (HSA.out.cell (p := ⟨w.heap.size, 15, none⟩) (by exact hz1)).trans c1_15

    clear hHeld
    refine hK.out _ _ ?_ (fun hHeld => ?_)
    · ((try dsimp only); go_keep)
    clear hK K
    try simp only [Act.put, List.setIfInBounds_toArray, List.set_cons_zero, List.set_cons_succ]
    refine wpAnyH_ready (rs := [5]) (by kernel_rfl) (by simp) ?_
    refine AllReadyH.cons (o := { dst := none, op := Op.store 74 (Operand.tmp 5) (Operand.tmp 19), type := 0, pos := "l7_mail.go:40", after := #[{ on := 4, ground := Ground.data }, { on := 3, ground := Ground.data }, { on := 0, ground := Ground.chain }, { on := 0, ground := Ground.phase }, { on := 1, ground := Ground.phase }, { on := 2, ground := Ground.phase }, { on := 3, ground := Ground.phase }, { on := 4, ground := Ground.phase }], guard := none }) rfl (fun K hK => ?_) AllReadyH.nil
    go_simp
    have HSB : Hid (Below p1.heap.size p1 (p1.alloc (.cells #[.string ⟨#[104, 101, 114, 101]⟩, .func (.func 82) #[] #[], .func (.func 83) #[] #[], .func (.func 84) #[] #[]] 74))) := (Below.refl _ _).alloc (Nat.le_refl _) _
    clear HSA c2_0 c2_1 c2_2 c2_3 c2_4 c2_5 c2_6 c2_7 c2_8 c2_9 c2_10 c2_11 c2_12 c2_13 c2_14 c2_15
    have c3_0 := (HSB.out.cell (p := ⟨w.heap.size, 0, none⟩) (by exact hz1)).trans c1_0
    have c3_1 := (HSB.out.cell (p := ⟨w.heap.size, 1, none⟩) (by exact hz1)).trans c1_1
    have c3_2 := (HSB.out.cell (p := ⟨w.heap.size, 2, none⟩) (by exact hz1)).trans c1_2
    have c3_3 := (HSB.out.cell (p := ⟨w.heap.size, 3, none⟩) (by exact hz1)).trans c1_3
    have c3_4 := (HSB.out.cell (p := ⟨w.heap.size, 4, none⟩) (by exact hz1)).trans c1_4
    have c3_5 := (HSB.out.cell (p := ⟨w.heap.size, 5, none⟩) (by exact hz1)).trans c1_5
    have c3_6 := (HSB.out.cell (p := ⟨w.heap.size, 6, none⟩) (by exact hz1)).trans c1_6
    have c3_7 := (HSB.out.cell (p := ⟨w.heap.size, 7, none⟩) (by exact hz1)).trans c1_7
    have c3_8 := (HSB.out.cell (p := ⟨w.heap.size, 8, none⟩) (by exact hz1)).trans c1_8
    have c3_9 := (HSB.out.cell (p := ⟨w.heap.size, 9, none⟩) (by exact hz1)).trans c1_9
    have c3_10 := (HSB.out.cell (p := ⟨w.heap.size, 10, none⟩) (by exact hz1)).trans c1_10
    have c3_11 := (HSB.out.cell (p := ⟨w.heap.size, 11, none⟩) (by exact hz1)).trans c1_11
    have c3_12 := (HSB.out.cell (p := ⟨w.heap.size, 12, none⟩) (by exact hz1)).trans c1_12
    have c3_13 := (HSB.out.cell (p := ⟨w.heap.size, 13, none⟩) (by exact hz1)).trans c1_13
    have c3_14 := (HSB.out.cell (p := ⟨w.heap.size, 14, none⟩) (by exact hz1)).trans c1_14
    have c3_15 := (HSB.out.cell (p := ⟨w.heap.size, 15, none⟩) (by exact hz1)).trans c1_15
    have q0 : (p1.alloc (.cells #[.string ⟨#[104, 101, 114, 101]⟩, .func (.func 82) #[] #[], .func (.func 83) #[] #[], .func (.func 84) #[] #[]] 74)).cell? ⟨p1.heap.size, 0, none⟩ = some (.string ⟨#[104, 101, 114, 101]⟩) := by simp [go_sem]
    have q1 : (p1.alloc (.cells #[.string ⟨#[104, 101, 114, 101]⟩, .func (.func 82) #[] #[], .func (.func 83) #[] #[], .func (.func 84) #[] #[]] 74)).cell? ⟨p1.heap.size, 1, none⟩ = some (.func (.func 82) #[] #[]) := by simp [go_sem]
    have q2 : (p1.alloc (.cells #[.string ⟨#[104, 101, 114, 101]⟩, .func (.func 82) #[] #[], .func (.func 83) #[] #[], .func (.func 84) #[] #[]] 74)).cell? ⟨p1.heap.size, 2, none⟩ = some (.func (.func 83) #[] #[]) := by simp [go_sem]
    have q3 : (p1.alloc (.cells #[.string ⟨#[104, 101, 114, 101]⟩, .func (.func 82) #[] #[], .func (.func 83) #[] #[], .func (.func 84) #[] #[]] 74)).cell? ⟨p1.heap.size, 3, none⟩ = some (.func (.func 84) #[] #[]) := by simp [go_sem]
    have hq : p1.heap.size < (p1.alloc (.cells #[.string ⟨#[104, 101, 114, 101]⟩, .func (.func 82) #[] #[], .func (.func 83) #[] #[], .func (.func 84) #[] #[]] 74)).heap.size := by simp
    have HV : Hid (Below w1.heap.size w1 (p1.alloc (.cells #[.string ⟨#[104, 101, 114, 101]⟩, .func (.func 82) #[] #[], .func (.func 83) #[] #[], .func (.func 84) #[] #[]] 74))) := HS1.out.trans (HSB.out.mono HS1.out.size)
    have hz3 : w.heap.size < (p1.alloc (.cells #[.string ⟨#[104, 101, 114, 101]⟩, .func (.func 82) #[] #[], .func (.func 83) #[] #[], .func (.func 84) #[] #[]] 74)).heap.size := by simp; omega
    clear HSB HS1 c1_0 c1_1 c1_2 c1_3 c1_4 c1_5 c1_6 c1_7 c1_8 c1_9 c1_10 c1_11 c1_12 c1_13 c1_14 c1_15
    clear hHeld
    refine hK.out _ _ ?_ (fun hHeld => ?_)
    · ((try dsimp only); go_keep)
    clear hK K
    try simp only [Act.put, List.setIfInBounds_toArray, List.set_cons_zero, List.set_cons_succ]
    generalize (p1.alloc (.cells #[.string ⟨#[104, 101, 114, 101]⟩, .func (.func 82) #[] #[], .func (.func 83) #[] #[], .func (.func 84) #[] #[]] 74)) = p3 at *
    generalize p1.heap.size = bk at *
    refine wpAnyH_done (by kernel_rfl) ?_ _
    clear hHeld
    have HPV : Hid (Pow p3) := pow_below HP.out (hBw1.trans (HV.out.mono hBw1.size))
    have k1 : ¬ 9223372036854775807 < 4 + 1 + (ofL (hereW x)).size := by omega
    have k2 : ¬ 9223372036854775807 < 5 + (ofL (hereW x)).size := by omega
    go_wp2_with fail
    refine wp_region_held_drew (S := (fun u => u.cell? ⟨w.heap.size, 0, none⟩ = some (.int .i64 3) ∧ u.cell? ⟨w.heap.size, 1, none⟩ = some (.int .i64 x.to) ∧ u.cell? ⟨w.heap.size, 2, none⟩ = some (.int .i64 x.fr) ∧ u.cell? ⟨w.heap.size, 3, none⟩ = some (.int .i64 x.ep) ∧ u.cell? ⟨w.heap.size, 4, none⟩ = some (.int .i64 x.ed) ∧ u.cell? ⟨w.heap.size, 5, none⟩ = some (.string x.km.nm) ∧ u.cell? ⟨w.heap.size, 6, none⟩ = some (.string x.km.tl) ∧ u.cell? ⟨w.heap.size, 7, none⟩ = some (.string x.km.ar) ∧ u.cell? ⟨w.heap.size, 8, none⟩ = some (.slice ai x.ls.length ci) ∧ u.cell? ⟨w.heap.size, 9, none⟩ = some (.int .i64 x.ct) ∧ u.cell? ⟨w.heap.size, 10, none⟩ = some (.bool x.tn.over) ∧ u.cell? ⟨w.heap.size, 11, none⟩ = some (.int .i64 x.tn.cd) ∧ u.cell? ⟨w.heap.size, 12, none⟩ = some (.string x.tn.tx) ∧ u.cell? ⟨w.heap.size, 13, none⟩ = some (.bool x.tn.has) ∧ u.cell? ⟨w.heap.size, 14, none⟩ = some (.string x.tn.nm) ∧ u.cell? ⟨w.heap.size, 15, none⟩ = some (.int .i64 x.tn.st) ∧ u.cell? ⟨bk, 0, none⟩ = some (.string ⟨#[104, 101, 114, 101]⟩) ∧ u.cell? ⟨bk, 1, none⟩ = some (.func (.func 82) #[] #[]) ∧ u.cell? ⟨bk, 2, none⟩ = some (.func (.func 83) #[] #[]) ∧ u.cell? ⟨bk, 3, none⟩ = some (.func (.func 84) #[] #[]))) (by kernel_rfl) ?_ (fun hHeld => ?_)
    · ((try dsimp only); go_keep)
    refine wpAnyH_take (i := 0) (oi := { dst := some 20, op := Op.fieldAddr 74 (Operand.tmp 5) 0, type := 0, pos := "l7_mail.go:41", after := #[], guard := none }) (v := ?_) rfl (by kernel_rfl) (by kernel_rfl) (by kernel_rfl) (fun _ _ _ h => h) (Or.inl ⟨by rfl, ?_⟩) (by assumption) ?_
    rotate_left
    · intro wq hSw
      (try dsimp only at hSw)
      go_simp
      try with_reducible rfl
    try simp only [Act.put, List.setIfInBounds_toArray, List.set_cons_zero, List.set_cons_succ]
    refine wpAnyH_take (i := 1) (oi := { dst := some 21, op := Op.load 9 (Operand.tmp 20), type := 9, pos := "l7_mail.go:41", after := #[{ on := 0, ground := Ground.data }], guard := none }) (v := ?_) rfl (by kernel_rfl) (by kernel_rfl) (by kernel_rfl) (fun _ _ _ h => h) (Or.inl ⟨by rfl, ?_⟩) (by assumption) ?_
    rotate_left
    · intro wq hSw
      (try dsimp only at hSw)
      go_simp
      try with_reducible rfl
    try simp only [Act.put, List.setIfInBounds_toArray, List.set_cons_zero, List.set_cons_succ]
    refine wpAnyH_take (i := 2) (oi := { dst := some 22, op := Op.binOp BinOp.add 9 (Operand.tmp 21) (Operand.const (Value.string { data := #[32] })) 9, type := 9, pos := "l7_mail.go:41", after := #[{ on := 1, ground := Ground.data }], guard := none }) (v := ?_) rfl (by kernel_rfl) (by kernel_rfl) (by kernel_rfl) (fun _ _ _ h => h) (Or.inl ⟨by rfl, ?_⟩) (by assumption) ?_
    rotate_left
    · intro wq hSw
      (try dsimp only at hSw)
      go_simp
      try with_reducible rfl
    try simp only [Act.put, List.setIfInBounds_toArray, List.set_cons_zero, List.set_cons_succ]
    refine wpAnyH_take (i := 3) (oi := { dst := some 23, op := Op.fieldAddr 74 (Operand.tmp 5) 2, type := 0, pos := "l7_mail.go:41", after := #[], guard := none }) (v := ?_) rfl (by kernel_rfl) (by kernel_rfl) (by kernel_rfl) (fun _ _ _ h => h) (Or.inl ⟨by rfl, ?_⟩) (by assumption) ?_
    rotate_left
    · intro wq hSw
      (try dsimp only at hSw)
      go_simp
      try with_reducible rfl
    try simp only [Act.put, List.setIfInBounds_toArray, List.set_cons_zero, List.set_cons_succ]
    refine wpAnyH_take (i := 4) (oi := { dst := some 24, op := Op.load 61 (Operand.tmp 23), type := 61, pos := "l7_mail.go:41", after := #[{ on := 3, ground := Ground.data }], guard := none }) (v := ?_) rfl (by kernel_rfl) (by kernel_rfl) (by kernel_rfl) (fun _ _ _ h => h) (Or.inl ⟨by rfl, ?_⟩) (by assumption) ?_
    rotate_left
    · intro wq hSw
      (try dsimp only at hSw)
      go_simp
      try with_reducible rfl
    try simp only [Act.put, List.setIfInBounds_toArray, List.set_cons_zero, List.set_cons_succ]
    refine wpAnyH_take (i := 5) (oi := { dst := some 25, op := Op.load 41 (Operand.tmp 2), type := 41, pos := "l7_mail.go:41", after := #[], guard := none }) (v := ?_) rfl (by kernel_rfl) (by kernel_rfl) (by kernel_rfl) (fun _ _ _ h => h) (Or.inl ⟨by rfl, ?_⟩) (by assumption) ?_
    rotate_left
    · intro wq hSw
      (try dsimp only at hSw)
      go_simp
      try with_reducible rfl
    try simp only [Act.put, List.setIfInBounds_toArray, List.set_cons_zero, List.set_cons_succ]
    refine wpAnyH_ready (rs := [6]) (by kernel_rfl) (by simp) ?_
    refine AllReadyH.cons (o := { dst := some 26, op := Op.call { callee := Callee.value (Operand.tmp 24), args := #[Operand.tmp 25], argTypes := #[41] }, type := 9, pos := "l7_mail.go:41", after := #[{ on := 4, ground := Ground.data }, { on := 5, ground := Ground.data }], guard := none }) rfl (fun K hK => ?_) AllReadyH.nil
    go_simp
    refine (c83 x 3 ai ci _ (pow_below HPV.out ((Below.refl _ _).drew)) r1 r2).mono ?_
    rintro e p4 ⟨rfl, hb4⟩
    have HS4 : Hid (Below p3.heap.size p3 p4) := ((Below.refl _ _).drew).trans hb4
    clear hb4
    have c4_0 := (HS4.out.cell (p := ⟨w.heap.size, 0, none⟩) (by exact hz3)).trans c3_0
    have c4_1 := (HS4.out.cell (p := ⟨w.heap.size, 1, none⟩) (by exact hz3)).trans c3_1
    have c4_2 := (HS4.out.cell (p := ⟨w.heap.size, 2, none⟩) (by exact hz3)).trans c3_2
    have c4_3 := (HS4.out.cell (p := ⟨w.heap.size, 3, none⟩) (by exact hz3)).trans c3_3
    have c4_4 := (HS4.out.cell (p := ⟨w.heap.size, 4, none⟩) (by exact hz3)).trans c3_4
    have c4_5 := (HS4.out.cell (p := ⟨w.heap.size, 5, none⟩) (by exact hz3)).trans c3_5
    have c4_6 := (HS4.out.cell (p := ⟨w.heap.size, 6, none⟩) (by exact hz3)).trans c3_6
    have c4_7 := (HS4.out.cell (p := ⟨w.heap.size, 7, none⟩) (by exact hz3)).trans c3_7
    have c4_8 := (HS4.out.cell (p := ⟨w.heap.size, 8, none⟩) (by exact hz3)).trans c3_8
    have c4_9 := (HS4.out.cell (p := ⟨w.heap.size, 9, none⟩) (by exact hz3)).trans c3_9
    have c4_10 := (HS4.out.cell (p := ⟨w.heap.size, 10, none⟩) (by exact hz3)).trans c3_10
    have c4_11 := (HS4.out.cell (p := ⟨w.heap.size, 11, none⟩) (by exact hz3)).trans c3_11
    have c4_12 := (HS4.out.cell (p := ⟨w.heap.size, 12, none⟩) (by exact hz3)).trans c3_12
    have c4_13 := (HS4.out.cell (p := ⟨w.heap.size, 13, none⟩) (by exact hz3)).trans c3_13
    have c4_14 := (HS4.out.cell (p := ⟨w.heap.size, 14, none⟩) (by exact hz3)).trans c3_14
    have c4_15 := (HS4.out.cell (p := ⟨w.heap.size, 15, none⟩) (by exact hz3)).trans c3_15
    have u0 := (HS4.out.cell (p := ⟨bk, 0, none⟩) (by exact hq)).trans q0
    have u1 := (HS4.out.cell (p := ⟨bk, 1, none⟩) (by exact hq)).trans q1
    have u2 := (HS4.out.cell (p := ⟨bk, 2, none⟩) (by exact hq)).trans q2
    have u3 := (HS4.out.cell (p := ⟨bk, 3, none⟩) (by exact hq)).trans q3

    go_wp2_with fail
    clear hHeld
    refine hK.out _ _ ?_ (fun hHeld => ?_)
    · ((try dsimp only); go_keep)
    clear hK K
    try simp only [Act.put, List.setIfInBounds_toArray, List.set_cons_zero, List.set_cons_succ]
    refine wpAnyH_take (i := 7) (oi := { dst := some 27, op := Op.binOp BinOp.add 9 (Operand.tmp 22) (Operand.tmp 26) 9, type := 9, pos := "l7_mail.go:41", after := #[{ on := 2, ground := Ground.data }, { on := 6, ground := Ground.data }], guard := none }) (v := ?_) rfl (by kernel_rfl) (by kernel_rfl) (by kernel_rfl) (fun _ _ _ h => h) (Or.inl ⟨by rfl, ?_⟩) (by assumption) ?_
    rotate_left
    · intro wq hSw
      (try dsimp only at hSw)
      go_simp
      try with_reducible rfl
    try simp only [Act.put, List.setIfInBounds_toArray, List.set_cons_zero, List.set_cons_succ]
    refine wpAnyH_take (i := 8) (oi := { dst := some 6, op := Op.assign (Operand.tmp 27), type := 9, pos := "l7_mail.go:41", after := #[{ on := 7, ground := Ground.data }, { on := 6, ground := Ground.chain }, { on := 0, ground := Ground.phase }, { on := 1, ground := Ground.phase }, { on := 2, ground := Ground.phase }, { on := 3, ground := Ground.phase }, { on := 4, ground := Ground.phase }, { on := 5, ground := Ground.phase }, { on := 6, ground := Ground.phase }, { on := 7, ground := Ground.phase }], guard := none }) (v := ?_) rfl (by kernel_rfl) (by kernel_rfl) (by kernel_rfl) (fun _ _ _ h => h) (Or.inl ⟨by rfl, ?_⟩) (by assumption) ?_
    rotate_left
    · intro wq hSw
      (try dsimp only at hSw)
      go_simp
      try with_reducible rfl
    try simp only [Act.put, List.setIfInBounds_toArray, List.set_cons_zero, List.set_cons_succ]
    refine wpAnyH_done (by kernel_rfl) ?_ _
    clear hHeld
    have hB4 : Below w.heap.size w p4 := (hBw1.trans (HV.out.mono hBw1.size)).trans (HS4.out.mono (hBw1.trans (HV.out.mono hBw1.size)).size)
    rw [HE.out]
    go_wp2_with fail
    refine (c41 (ofL (hereL x)) key _ (by omega) (by omega)).mono ?_
    rintro e p5 ⟨rfl, hb5⟩
    have hB5 : Below w.heap.size w p5 := hB4.trans (hb5.mono hB4.size)
    clear hb5
    have k3 : ¬ 9223372036854775807 < (tagS (ofL (hereL x)) key).size + (ofL (hereL x)).size := by omega
    go_wp2
    go_ret
    exact ⟨rfl, hB5⟩
  · go_simp
    have HS1 : Hid (Below w1.heap.size w1 (w1.alloc (.cells #[.string ⟨#[]⟩, .nilFunc, .nilFunc, .nilFunc] 74)).drew) := ((Below.refl _ _).alloc (Nat.le_refl _) _).drew
    have c1_0 := (HS1.out.cell (p := ⟨w.heap.size, 0, none⟩) (by exact hz0)).trans c0_0
    have c1_1 := (HS1.out.cell (p := ⟨w.heap.size, 1, none⟩) (by exact hz0)).trans c0_1
    have c1_2 := (HS1.out.cell (p := ⟨w.heap.size, 2, none⟩) (by exact hz0)).trans c0_2
    have c1_3 := (HS1.out.cell (p := ⟨w.heap.size, 3, none⟩) (by exact hz0)).trans c0_3
    have c1_4 := (HS1.out.cell (p := ⟨w.heap.size, 4, none⟩) (by exact hz0)).trans c0_4
    have c1_5 := (HS1.out.cell (p := ⟨w.heap.size, 5, none⟩) (by exact hz0)).trans c0_5
    have c1_6 := (HS1.out.cell (p := ⟨w.heap.size, 6, none⟩) (by exact hz0)).trans c0_6
    have c1_7 := (HS1.out.cell (p := ⟨w.heap.size, 7, none⟩) (by exact hz0)).trans c0_7
    have c1_8 := (HS1.out.cell (p := ⟨w.heap.size, 8, none⟩) (by exact hz0)).trans c0_8
    have c1_9 := (HS1.out.cell (p := ⟨w.heap.size, 9, none⟩) (by exact hz0)).trans c0_9
    have c1_10 := (HS1.out.cell (p := ⟨w.heap.size, 10, none⟩) (by exact hz0)).trans c0_10
    have c1_11 := (HS1.out.cell (p := ⟨w.heap.size, 11, none⟩) (by exact hz0)).trans c0_11
    have c1_12 := (HS1.out.cell (p := ⟨w.heap.size, 12, none⟩) (by exact hz0)).trans c0_12
    have c1_13 := (HS1.out.cell (p := ⟨w.heap.size, 13, none⟩) (by exact hz0)).trans c0_13
    have c1_14 := (HS1.out.cell (p := ⟨w.heap.size, 14, none⟩) (by exact hz0)).trans c0_14
    have c1_15 := (HS1.out.cell (p := ⟨w.heap.size, 15, none⟩) (by exact hz0)).trans c0_15
    clear c0_0 c0_1 c0_2 c0_3 c0_4 c0_5 c0_6 c0_7 c0_8 c0_9 c0_10 c0_11 c0_12 c0_13 c0_14 c0_15
    have z0 : (w1.alloc (.cells #[.string ⟨#[]⟩, .nilFunc, .nilFunc, .nilFunc] 74)).drew.cell? ⟨w1.heap.size, 0, none⟩ = some (.string ⟨#[]⟩) := by simp [go_sem]
    have z1 : (w1.alloc (.cells #[.string ⟨#[]⟩, .nilFunc, .nilFunc, .nilFunc] 74)).drew.cell? ⟨w1.heap.size, 1, none⟩ = some (.nilFunc) := by simp [go_sem]
    have z2 : (w1.alloc (.cells #[.string ⟨#[]⟩, .nilFunc, .nilFunc, .nilFunc] 74)).drew.cell? ⟨w1.heap.size, 2, none⟩ = some (.nilFunc) := by simp [go_sem]
    have z3 : (w1.alloc (.cells #[.string ⟨#[]⟩, .nilFunc, .nilFunc, .nilFunc] 74)).drew.cell? ⟨w1.heap.size, 3, none⟩ = some (.nilFunc) := by simp [go_sem]
    have zf : ∀ j, (w1.alloc (.cells #[.string ⟨#[]⟩, .nilFunc, .nilFunc, .nilFunc] 74)).drew.frozen? ⟨w1.heap.size, j, none⟩ = false := fun j => by simp [go_sem]
    have hq1 : w1.heap.size < (w1.alloc (.cells #[.string ⟨#[]⟩, .nilFunc, .nilFunc, .nilFunc] 74)).drew.heap.size := by simp
    have hz1 : w.heap.size < (w1.alloc (.cells #[.string ⟨#[]⟩, .nilFunc, .nilFunc, .nilFunc] 74)).drew.heap.size := by simp; omega
    generalize (w1.alloc (.cells #[.string ⟨#[]⟩, .nilFunc, .nilFunc, .nilFunc] 74)).drew = p1 at *
    clear hHeld
    refine hK.out _ _ ?_ (fun hHeld => ?_)
    · ((try dsimp only); go_keep)
    clear hK K
    try simp only [Act.put, List.setIfInBounds_toArray, List.set_cons_zero, List.set_cons_succ]
    refine wpAnyH_ready (rs := [0]) (by kernel_rfl) (by simp) ?_
    refine AllReadyH.cons (o := { dst := some 16, op := Op.call { callee := Callee.value (Operand.func 40), args := #[], argTypes := #[] }, type := 75, pos := "l7_mail.go:40", after := #[], guard := none }) rfl (fun K hK => ?_) AllReadyH.nil
    go_simp
    refine (c40 _).mono ?_
    rintro e p2 ⟨rfl, hb2⟩
    have HS2 : Hid (Below p1.heap.size p1 p2) :=  hb2
    clear hb2
    have c2_0 := (HS2.out.cell (p := ⟨w.heap.size, 0, none⟩) (by exact hz1)).trans c1_0
    have c2_1 := (HS2.out.cell (p := ⟨w.heap.size, 1, none⟩) (by exact hz1)).trans c1_1
    have c2_2 := (HS2.out.cell (p := ⟨w.heap.size, 2, none⟩) (by exact hz1)).trans c1_2
    have c2_3 := (HS2.out.cell (p := ⟨w.heap.size, 3, none⟩) (by exact hz1)).trans c1_3
    have c2_4 := (HS2.out.cell (p := ⟨w.heap.size, 4, none⟩) (by exact hz1)).trans c1_4
    have c2_5 := (HS2.out.cell (p := ⟨w.heap.size, 5, none⟩) (by exact hz1)).trans c1_5
    have c2_6 := (HS2.out.cell (p := ⟨w.heap.size, 6, none⟩) (by exact hz1)).trans c1_6
    have c2_7 := (HS2.out.cell (p := ⟨w.heap.size, 7, none⟩) (by exact hz1)).trans c1_7
    have c2_8 := (HS2.out.cell (p := ⟨w.heap.size, 8, none⟩) (by exact hz1)).trans c1_8
    have c2_9 := (HS2.out.cell (p := ⟨w.heap.size, 9, none⟩) (by exact hz1)).trans c1_9
    have c2_10 := (HS2.out.cell (p := ⟨w.heap.size, 10, none⟩) (by exact hz1)).trans c1_10
    have c2_11 := (HS2.out.cell (p := ⟨w.heap.size, 11, none⟩) (by exact hz1)).trans c1_11
    have c2_12 := (HS2.out.cell (p := ⟨w.heap.size, 12, none⟩) (by exact hz1)).trans c1_12
    have c2_13 := (HS2.out.cell (p := ⟨w.heap.size, 13, none⟩) (by exact hz1)).trans c1_13
    have c2_14 := (HS2.out.cell (p := ⟨w.heap.size, 14, none⟩) (by exact hz1)).trans c1_14
    have c2_15 := (HS2.out.cell (p := ⟨w.heap.size, 15, none⟩) (by exact hz1)).trans c1_15
    clear c1_0 c1_1 c1_2 c1_3 c1_4 c1_5 c1_6 c1_7 c1_8 c1_9 c1_10 c1_11 c1_12 c1_13 c1_14 c1_15
    have hz2 : w.heap.size < p2.heap.size := Nat.lt_of_lt_of_le hz1 HS2.out.size
    have y0 := (HS2.out.cell (p := ⟨w1.heap.size, 0, none⟩) hq1).trans z0
    have y1 := (HS2.out.cell (p := ⟨w1.heap.size, 1, none⟩) hq1).trans z1
    have y2 := (HS2.out.cell (p := ⟨w1.heap.size, 2, none⟩) hq1).trans z2
    have y3 := (HS2.out.cell (p := ⟨w1.heap.size, 3, none⟩) hq1).trans z3
    have yf0 : p2.frozen? ⟨w1.heap.size, 0, none⟩ = false := (HS2.out.frozen (p := ⟨w1.heap.size, 0, none⟩) hq1).trans (zf 0)
    have yf1 : p2.frozen? ⟨w1.heap.size, 1, none⟩ = false := (HS2.out.frozen (p := ⟨w1.heap.size, 1, none⟩) hq1).trans (zf 1)
    have yf2 : p2.frozen? ⟨w1.heap.size, 2, none⟩ = false := (HS2.out.frozen (p := ⟨w1.heap.size, 2, none⟩) hq1).trans (zf 2)
    have yf3 : p2.frozen? ⟨w1.heap.size, 3, none⟩ = false := (HS2.out.frozen (p := ⟨w1.heap.size, 3, none⟩) hq1).trans (zf 3)
    have hq2 := Nat.lt_of_lt_of_le hq1 HS2.out.size
    clear z0 z1 z2 z3 zf
    go_wp2_with fail
    clear hHeld
    refine hK.out _ _ ?_ (fun hHeld => ?_)
    · ((try dsimp only); go_keep)
    clear hK K
    try simp only [Act.put, List.setIfInBounds_toArray, List.set_cons_zero, List.set_cons_succ]
    refine wpAnyH_take (i := 3) (oi := { dst := some 19, op := Op.index 75 (Operand.tmp 16) (Operand.tmp 18), type := 74, pos := "l7_mail.go:40", after := #[{ on := 0, ground := Ground.data }, { on := 2, ground := Ground.data }], guard := none }) (v := ?_) rfl (by kernel_rfl) (by kernel_rfl) (by kernel_rfl) (fun _ _ _ h => h) (Or.inl ⟨by rfl, ?_⟩) (by assumption) ?_
    rotate_left
    · intro wq hSw
      (try dsimp only at hSw)
      go_simp
      try with_reducible rfl
    try simp only [Act.put, List.setIfInBounds_toArray, List.set_cons_zero, List.set_cons_succ]
    refine wpAnyH_ready (rs := [5]) (by kernel_rfl) (by simp) ?_
    refine AllReadyH.cons (o := { dst := none, op := Op.store 74 (Operand.tmp 5) (Operand.tmp 19), type := 0, pos := "l7_mail.go:40", after := #[{ on := 4, ground := Ground.data }, { on := 3, ground := Ground.data }, { on := 0, ground := Ground.chain }, { on := 0, ground := Ground.phase }, { on := 1, ground := Ground.phase }, { on := 2, ground := Ground.phase }, { on := 3, ground := Ground.phase }, { on := 4, ground := Ground.phase }], guard := none }) rfl (fun K hK => ?_) AllReadyH.nil
    go_simp
    have c3_0 : ((((p2.setCell ⟨w1.heap.size, 0, none⟩ (.string ⟨#[104, 101, 114, 101]⟩)).setCell ⟨w1.heap.size, 1, none⟩ (.func (.func 82) #[] #[])).setCell ⟨w1.heap.size, 2, none⟩ (.func (.func 83) #[] #[])).setCell ⟨w1.heap.size, 3, none⟩ (.func (.func 84) #[] #[])).cell? ⟨w.heap.size, 0, none⟩ = some (.int .i64 3) := (World.cell?_setCell_far _ _ _ _ (by show w1.heap.size ≠ w.heap.size; omega)).trans ((World.cell?_setCell_far _ _ _ _ (by show w1.heap.size ≠ w.heap.size; omega)).trans ((World.cell?_setCell_far _ _ _ _ (by show w1.heap.size ≠ w.heap.size; omega)).trans ((World.cell?_setCell_far _ _ _ _ (by show w1.heap.size ≠ w.heap.size; omega)).trans c2_0)))
    have c3_1 : ((((p2.setCell ⟨w1.heap.size, 0, none⟩ (.string ⟨#[104, 101, 114, 101]⟩)).setCell ⟨w1.heap.size, 1, none⟩ (.func (.func 82) #[] #[])).setCell ⟨w1.heap.size, 2, none⟩ (.func (.func 83) #[] #[])).setCell ⟨w1.heap.size, 3, none⟩ (.func (.func 84) #[] #[])).cell? ⟨w.heap.size, 1, none⟩ = some (.int .i64 x.to) := (World.cell?_setCell_far _ _ _ _ (by show w1.heap.size ≠ w.heap.size; omega)).trans ((World.cell?_setCell_far _ _ _ _ (by show w1.heap.size ≠ w.heap.size; omega)).trans ((World.cell?_setCell_far _ _ _ _ (by show w1.heap.size ≠ w.heap.size; omega)).trans ((World.cell?_setCell_far _ _ _ _ (by show w1.heap.size ≠ w.heap.size; omega)).trans c2_1)))
    have c3_2 : ((((p2.setCell ⟨w1.heap.size, 0, none⟩ (.string ⟨#[104, 101, 114, 101]⟩)).setCell ⟨w1.heap.size, 1, none⟩ (.func (.func 82) #[] #[])).setCell ⟨w1.heap.size, 2, none⟩ (.func (.func 83) #[] #[])).setCell ⟨w1.heap.size, 3, none⟩ (.func (.func 84) #[] #[])).cell? ⟨w.heap.size, 2, none⟩ = some (.int .i64 x.fr) := (World.cell?_setCell_far _ _ _ _ (by show w1.heap.size ≠ w.heap.size; omega)).trans ((World.cell?_setCell_far _ _ _ _ (by show w1.heap.size ≠ w.heap.size; omega)).trans ((World.cell?_setCell_far _ _ _ _ (by show w1.heap.size ≠ w.heap.size; omega)).trans ((World.cell?_setCell_far _ _ _ _ (by show w1.heap.size ≠ w.heap.size; omega)).trans c2_2)))
    have c3_3 : ((((p2.setCell ⟨w1.heap.size, 0, none⟩ (.string ⟨#[104, 101, 114, 101]⟩)).setCell ⟨w1.heap.size, 1, none⟩ (.func (.func 82) #[] #[])).setCell ⟨w1.heap.size, 2, none⟩ (.func (.func 83) #[] #[])).setCell ⟨w1.heap.size, 3, none⟩ (.func (.func 84) #[] #[])).cell? ⟨w.heap.size, 3, none⟩ = some (.int .i64 x.ep) := (World.cell?_setCell_far _ _ _ _ (by show w1.heap.size ≠ w.heap.size; omega)).trans ((World.cell?_setCell_far _ _ _ _ (by show w1.heap.size ≠ w.heap.size; omega)).trans ((World.cell?_setCell_far _ _ _ _ (by show w1.heap.size ≠ w.heap.size; omega)).trans ((World.cell?_setCell_far _ _ _ _ (by show w1.heap.size ≠ w.heap.size; omega)).trans c2_3)))
    have c3_4 : ((((p2.setCell ⟨w1.heap.size, 0, none⟩ (.string ⟨#[104, 101, 114, 101]⟩)).setCell ⟨w1.heap.size, 1, none⟩ (.func (.func 82) #[] #[])).setCell ⟨w1.heap.size, 2, none⟩ (.func (.func 83) #[] #[])).setCell ⟨w1.heap.size, 3, none⟩ (.func (.func 84) #[] #[])).cell? ⟨w.heap.size, 4, none⟩ = some (.int .i64 x.ed) := (World.cell?_setCell_far _ _ _ _ (by show w1.heap.size ≠ w.heap.size; omega)).trans ((World.cell?_setCell_far _ _ _ _ (by show w1.heap.size ≠ w.heap.size; omega)).trans ((World.cell?_setCell_far _ _ _ _ (by show w1.heap.size ≠ w.heap.size; omega)).trans ((World.cell?_setCell_far _ _ _ _ (by show w1.heap.size ≠ w.heap.size; omega)).trans c2_4)))
    have c3_5 : ((((p2.setCell ⟨w1.heap.size, 0, none⟩ (.string ⟨#[104, 101, 114, 101]⟩)).setCell ⟨w1.heap.size, 1, none⟩ (.func (.func 82) #[] #[])).setCell ⟨w1.heap.size, 2, none⟩ (.func (.func 83) #[] #[])).setCell ⟨w1.heap.size, 3, none⟩ (.func (.func 84) #[] #[])).cell? ⟨w.heap.size, 5, none⟩ = some (.string x.km.nm) := (World.cell?_setCell_far _ _ _ _ (by show w1.heap.size ≠ w.heap.size; omega)).trans ((World.cell?_setCell_far _ _ _ _ (by show w1.heap.size ≠ w.heap.size; omega)).trans ((World.cell?_setCell_far _ _ _ _ (by show w1.heap.size ≠ w.heap.size; omega)).trans ((World.cell?_setCell_far _ _ _ _ (by show w1.heap.size ≠ w.heap.size; omega)).trans c2_5)))
    have c3_6 : ((((p2.setCell ⟨w1.heap.size, 0, none⟩ (.string ⟨#[104, 101, 114, 101]⟩)).setCell ⟨w1.heap.size, 1, none⟩ (.func (.func 82) #[] #[])).setCell ⟨w1.heap.size, 2, none⟩ (.func (.func 83) #[] #[])).setCell ⟨w1.heap.size, 3, none⟩ (.func (.func 84) #[] #[])).cell? ⟨w.heap.size, 6, none⟩ = some (.string x.km.tl) := (World.cell?_setCell_far _ _ _ _ (by show w1.heap.size ≠ w.heap.size; omega)).trans ((World.cell?_setCell_far _ _ _ _ (by show w1.heap.size ≠ w.heap.size; omega)).trans ((World.cell?_setCell_far _ _ _ _ (by show w1.heap.size ≠ w.heap.size; omega)).trans ((World.cell?_setCell_far _ _ _ _ (by show w1.heap.size ≠ w.heap.size; omega)).trans c2_6)))
    have c3_7 : ((((p2.setCell ⟨w1.heap.size, 0, none⟩ (.string ⟨#[104, 101, 114, 101]⟩)).setCell ⟨w1.heap.size, 1, none⟩ (.func (.func 82) #[] #[])).setCell ⟨w1.heap.size, 2, none⟩ (.func (.func 83) #[] #[])).setCell ⟨w1.heap.size, 3, none⟩ (.func (.func 84) #[] #[])).cell? ⟨w.heap.size, 7, none⟩ = some (.string x.km.ar) := (World.cell?_setCell_far _ _ _ _ (by show w1.heap.size ≠ w.heap.size; omega)).trans ((World.cell?_setCell_far _ _ _ _ (by show w1.heap.size ≠ w.heap.size; omega)).trans ((World.cell?_setCell_far _ _ _ _ (by show w1.heap.size ≠ w.heap.size; omega)).trans ((World.cell?_setCell_far _ _ _ _ (by show w1.heap.size ≠ w.heap.size; omega)).trans c2_7)))
    have c3_8 : ((((p2.setCell ⟨w1.heap.size, 0, none⟩ (.string ⟨#[104, 101, 114, 101]⟩)).setCell ⟨w1.heap.size, 1, none⟩ (.func (.func 82) #[] #[])).setCell ⟨w1.heap.size, 2, none⟩ (.func (.func 83) #[] #[])).setCell ⟨w1.heap.size, 3, none⟩ (.func (.func 84) #[] #[])).cell? ⟨w.heap.size, 8, none⟩ = some (.slice ai x.ls.length ci) := (World.cell?_setCell_far _ _ _ _ (by show w1.heap.size ≠ w.heap.size; omega)).trans ((World.cell?_setCell_far _ _ _ _ (by show w1.heap.size ≠ w.heap.size; omega)).trans ((World.cell?_setCell_far _ _ _ _ (by show w1.heap.size ≠ w.heap.size; omega)).trans ((World.cell?_setCell_far _ _ _ _ (by show w1.heap.size ≠ w.heap.size; omega)).trans c2_8)))
    have c3_9 : ((((p2.setCell ⟨w1.heap.size, 0, none⟩ (.string ⟨#[104, 101, 114, 101]⟩)).setCell ⟨w1.heap.size, 1, none⟩ (.func (.func 82) #[] #[])).setCell ⟨w1.heap.size, 2, none⟩ (.func (.func 83) #[] #[])).setCell ⟨w1.heap.size, 3, none⟩ (.func (.func 84) #[] #[])).cell? ⟨w.heap.size, 9, none⟩ = some (.int .i64 x.ct) := (World.cell?_setCell_far _ _ _ _ (by show w1.heap.size ≠ w.heap.size; omega)).trans ((World.cell?_setCell_far _ _ _ _ (by show w1.heap.size ≠ w.heap.size; omega)).trans ((World.cell?_setCell_far _ _ _ _ (by show w1.heap.size ≠ w.heap.size; omega)).trans ((World.cell?_setCell_far _ _ _ _ (by show w1.heap.size ≠ w.heap.size; omega)).trans c2_9)))
    have c3_10 : ((((p2.setCell ⟨w1.heap.size, 0, none⟩ (.string ⟨#[104, 101, 114, 101]⟩)).setCell ⟨w1.heap.size, 1, none⟩ (.func (.func 82) #[] #[])).setCell ⟨w1.heap.size, 2, none⟩ (.func (.func 83) #[] #[])).setCell ⟨w1.heap.size, 3, none⟩ (.func (.func 84) #[] #[])).cell? ⟨w.heap.size, 10, none⟩ = some (.bool x.tn.over) := (World.cell?_setCell_far _ _ _ _ (by show w1.heap.size ≠ w.heap.size; omega)).trans ((World.cell?_setCell_far _ _ _ _ (by show w1.heap.size ≠ w.heap.size; omega)).trans ((World.cell?_setCell_far _ _ _ _ (by show w1.heap.size ≠ w.heap.size; omega)).trans ((World.cell?_setCell_far _ _ _ _ (by show w1.heap.size ≠ w.heap.size; omega)).trans c2_10)))
    have c3_11 : ((((p2.setCell ⟨w1.heap.size, 0, none⟩ (.string ⟨#[104, 101, 114, 101]⟩)).setCell ⟨w1.heap.size, 1, none⟩ (.func (.func 82) #[] #[])).setCell ⟨w1.heap.size, 2, none⟩ (.func (.func 83) #[] #[])).setCell ⟨w1.heap.size, 3, none⟩ (.func (.func 84) #[] #[])).cell? ⟨w.heap.size, 11, none⟩ = some (.int .i64 x.tn.cd) := (World.cell?_setCell_far _ _ _ _ (by show w1.heap.size ≠ w.heap.size; omega)).trans ((World.cell?_setCell_far _ _ _ _ (by show w1.heap.size ≠ w.heap.size; omega)).trans ((World.cell?_setCell_far _ _ _ _ (by show w1.heap.size ≠ w.heap.size; omega)).trans ((World.cell?_setCell_far _ _ _ _ (by show w1.heap.size ≠ w.heap.size; omega)).trans c2_11)))
    have c3_12 : ((((p2.setCell ⟨w1.heap.size, 0, none⟩ (.string ⟨#[104, 101, 114, 101]⟩)).setCell ⟨w1.heap.size, 1, none⟩ (.func (.func 82) #[] #[])).setCell ⟨w1.heap.size, 2, none⟩ (.func (.func 83) #[] #[])).setCell ⟨w1.heap.size, 3, none⟩ (.func (.func 84) #[] #[])).cell? ⟨w.heap.size, 12, none⟩ = some (.string x.tn.tx) := (World.cell?_setCell_far _ _ _ _ (by show w1.heap.size ≠ w.heap.size; omega)).trans ((World.cell?_setCell_far _ _ _ _ (by show w1.heap.size ≠ w.heap.size; omega)).trans ((World.cell?_setCell_far _ _ _ _ (by show w1.heap.size ≠ w.heap.size; omega)).trans ((World.cell?_setCell_far _ _ _ _ (by show w1.heap.size ≠ w.heap.size; omega)).trans c2_12)))
    have c3_13 : ((((p2.setCell ⟨w1.heap.size, 0, none⟩ (.string ⟨#[104, 101, 114, 101]⟩)).setCell ⟨w1.heap.size, 1, none⟩ (.func (.func 82) #[] #[])).setCell ⟨w1.heap.size, 2, none⟩ (.func (.func 83) #[] #[])).setCell ⟨w1.heap.size, 3, none⟩ (.func (.func 84) #[] #[])).cell? ⟨w.heap.size, 13, none⟩ = some (.bool x.tn.has) := (World.cell?_setCell_far _ _ _ _ (by show w1.heap.size ≠ w.heap.size; omega)).trans ((World.cell?_setCell_far _ _ _ _ (by show w1.heap.size ≠ w.heap.size; omega)).trans ((World.cell?_setCell_far _ _ _ _ (by show w1.heap.size ≠ w.heap.size; omega)).trans ((World.cell?_setCell_far _ _ _ _ (by show w1.heap.size ≠ w.heap.size; omega)).trans c2_13)))
    have c3_14 : ((((p2.setCell ⟨w1.heap.size, 0, none⟩ (.string ⟨#[104, 101, 114, 101]⟩)).setCell ⟨w1.heap.size, 1, none⟩ (.func (.func 82) #[] #[])).setCell ⟨w1.heap.size, 2, none⟩ (.func (.func 83) #[] #[])).setCell ⟨w1.heap.size, 3, none⟩ (.func (.func 84) #[] #[])).cell? ⟨w.heap.size, 14, none⟩ = some (.string x.tn.nm) := (World.cell?_setCell_far _ _ _ _ (by show w1.heap.size ≠ w.heap.size; omega)).trans ((World.cell?_setCell_far _ _ _ _ (by show w1.heap.size ≠ w.heap.size; omega)).trans ((World.cell?_setCell_far _ _ _ _ (by show w1.heap.size ≠ w.heap.size; omega)).trans ((World.cell?_setCell_far _ _ _ _ (by show w1.heap.size ≠ w.heap.size; omega)).trans c2_14)))
    have c3_15 : ((((p2.setCell ⟨w1.heap.size, 0, none⟩ (.string ⟨#[104, 101, 114, 101]⟩)).setCell ⟨w1.heap.size, 1, none⟩ (.func (.func 82) #[] #[])).setCell ⟨w1.heap.size, 2, none⟩ (.func (.func 83) #[] #[])).setCell ⟨w1.heap.size, 3, none⟩ (.func (.func 84) #[] #[])).cell? ⟨w.heap.size, 15, none⟩ = some (.int .i64 x.tn.st) := (World.cell?_setCell_far _ _ _ _ (by show w1.heap.size ≠ w.heap.size; omega)).trans ((World.cell?_setCell_far _ _ _ _ (by show w1.heap.size ≠ w.heap.size; omega)).trans ((World.cell?_setCell_far _ _ _ _ (by show w1.heap.size ≠ w.heap.size; omega)).trans ((World.cell?_setCell_far _ _ _ _ (by show w1.heap.size ≠ w.heap.size; omega)).trans c2_15)))
    have q0 : ((((p2.setCell ⟨w1.heap.size, 0, none⟩ (.string ⟨#[104, 101, 114, 101]⟩)).setCell ⟨w1.heap.size, 1, none⟩ (.func (.func 82) #[] #[])).setCell ⟨w1.heap.size, 2, none⟩ (.func (.func 83) #[] #[])).setCell ⟨w1.heap.size, 3, none⟩ (.func (.func 84) #[] #[])).cell? ⟨w1.heap.size, 0, none⟩ = some (.string ⟨#[104, 101, 114, 101]⟩) := by rw [World.cell?_setCell_other _ _ _ _ (adr_ne (by omega)), World.cell?_setCell_other _ _ _ _ (adr_ne (by omega)), World.cell?_setCell_other _ _ _ _ (adr_ne (by omega))]; exact World.cell?_setCell_same _ _ _ (by exact y0)
    have q1 : ((((p2.setCell ⟨w1.heap.size, 0, none⟩ (.string ⟨#[104, 101, 114, 101]⟩)).setCell ⟨w1.heap.size, 1, none⟩ (.func (.func 82) #[] #[])).setCell ⟨w1.heap.size, 2, none⟩ (.func (.func 83) #[] #[])).setCell ⟨w1.heap.size, 3, none⟩ (.func (.func 84) #[] #[])).cell? ⟨w1.heap.size, 1, none⟩ = some (.func (.func 82) #[] #[]) := by rw [World.cell?_setCell_other _ _ _ _ (adr_ne (by omega)), World.cell?_setCell_other _ _ _ _ (adr_ne (by omega))]; exact World.cell?_setCell_same _ _ _ (by rw [World.cell?_setCell_other _ _ _ _ (adr_ne (by omega))]; exact y1)
    have q2 : ((((p2.setCell ⟨w1.heap.size, 0, none⟩ (.string ⟨#[104, 101, 114, 101]⟩)).setCell ⟨w1.heap.size, 1, none⟩ (.func (.func 82) #[] #[])).setCell ⟨w1.heap.size, 2, none⟩ (.func (.func 83) #[] #[])).setCell ⟨w1.heap.size, 3, none⟩ (.func (.func 84) #[] #[])).cell? ⟨w1.heap.size, 2, none⟩ = some (.func (.func 83) #[] #[]) := by rw [World.cell?_setCell_other _ _ _ _ (adr_ne (by omega))]; exact World.cell?_setCell_same _ _ _ (by rw [World.cell?_setCell_other _ _ _ _ (adr_ne (by omega)), World.cell?_setCell_other _ _ _ _ (adr_ne (by omega))]; exact y2)
    have q3 : ((((p2.setCell ⟨w1.heap.size, 0, none⟩ (.string ⟨#[104, 101, 114, 101]⟩)).setCell ⟨w1.heap.size, 1, none⟩ (.func (.func 82) #[] #[])).setCell ⟨w1.heap.size, 2, none⟩ (.func (.func 83) #[] #[])).setCell ⟨w1.heap.size, 3, none⟩ (.func (.func 84) #[] #[])).cell? ⟨w1.heap.size, 3, none⟩ = some (.func (.func 84) #[] #[]) := by exact World.cell?_setCell_same _ _ _ (by rw [World.cell?_setCell_other _ _ _ _ (adr_ne (by omega)), World.cell?_setCell_other _ _ _ _ (adr_ne (by omega)), World.cell?_setCell_other _ _ _ _ (adr_ne (by omega))]; exact y3)
    have HV : Hid (Below w1.heap.size w1 ((((p2.setCell ⟨w1.heap.size, 0, none⟩ (.string ⟨#[104, 101, 114, 101]⟩)).setCell ⟨w1.heap.size, 1, none⟩ (.func (.func 82) #[] #[])).setCell ⟨w1.heap.size, 2, none⟩ (.func (.func 83) #[] #[])).setCell ⟨w1.heap.size, 3, none⟩ (.func (.func 84) #[] #[]))) := ((((HS1.out.trans (HS2.out.mono HS1.out.size)).setCell (by simp) _).setCell (by simp) _).setCell (by simp) _).setCell (by simp) _
    have hq : w1.heap.size < ((((p2.setCell ⟨w1.heap.size, 0, none⟩ (.string ⟨#[104, 101, 114, 101]⟩)).setCell ⟨w1.heap.size, 1, none⟩ (.func (.func 82) #[] #[])).setCell ⟨w1.heap.size, 2, none⟩ (.func (.func 83) #[] #[])).setCell ⟨w1.heap.size, 3, none⟩ (.func (.func 84) #[] #[])).heap.size := by simp; omega
    have hz3 : w.heap.size < ((((p2.setCell ⟨w1.heap.size, 0, none⟩ (.string ⟨#[104, 101, 114, 101]⟩)).setCell ⟨w1.heap.size, 1, none⟩ (.func (.func 82) #[] #[])).setCell ⟨w1.heap.size, 2, none⟩ (.func (.func 83) #[] #[])).setCell ⟨w1.heap.size, 3, none⟩ (.func (.func 84) #[] #[])).heap.size := by simp; omega
    clear HS1 HS2 y0 y1 y2 y3 yf0 yf1 yf2 yf3 c2_0 c2_1 c2_2 c2_3 c2_4 c2_5 c2_6 c2_7 c2_8 c2_9 c2_10 c2_11 c2_12 c2_13 c2_14 c2_15
    clear hHeld
    refine hK.out _ _ ?_ (fun hHeld => ?_)
    · ((try dsimp only); go_keep)
    clear hK K
    try simp only [Act.put, List.setIfInBounds_toArray, List.set_cons_zero, List.set_cons_succ]
    generalize ((((p2.setCell ⟨w1.heap.size, 0, none⟩ (.string ⟨#[104, 101, 114, 101]⟩)).setCell ⟨w1.heap.size, 1, none⟩ (.func (.func 82) #[] #[])).setCell ⟨w1.heap.size, 2, none⟩ (.func (.func 83) #[] #[])).setCell ⟨w1.heap.size, 3, none⟩ (.func (.func 84) #[] #[])) = p3 at *
    obtain ⟨bk, hbk⟩ : ∃ bk, bk = w1.heap.size := ⟨_, rfl⟩
    rw [← hbk] at q0 q1 q2 q3 hq ⊢
    clear hbk
    refine wpAnyH_done (by kernel_rfl) ?_ _
    clear hHeld
    have HPV : Hid (Pow p3) := pow_below HP.out (hBw1.trans (HV.out.mono hBw1.size))
    have k1 : ¬ 9223372036854775807 < 4 + 1 + (ofL (hereW x)).size := by omega
    have k2 : ¬ 9223372036854775807 < 5 + (ofL (hereW x)).size := by omega
    go_wp2_with fail
    refine wp_region_held_drew (S := (fun u => u.cell? ⟨w.heap.size, 0, none⟩ = some (.int .i64 3) ∧ u.cell? ⟨w.heap.size, 1, none⟩ = some (.int .i64 x.to) ∧ u.cell? ⟨w.heap.size, 2, none⟩ = some (.int .i64 x.fr) ∧ u.cell? ⟨w.heap.size, 3, none⟩ = some (.int .i64 x.ep) ∧ u.cell? ⟨w.heap.size, 4, none⟩ = some (.int .i64 x.ed) ∧ u.cell? ⟨w.heap.size, 5, none⟩ = some (.string x.km.nm) ∧ u.cell? ⟨w.heap.size, 6, none⟩ = some (.string x.km.tl) ∧ u.cell? ⟨w.heap.size, 7, none⟩ = some (.string x.km.ar) ∧ u.cell? ⟨w.heap.size, 8, none⟩ = some (.slice ai x.ls.length ci) ∧ u.cell? ⟨w.heap.size, 9, none⟩ = some (.int .i64 x.ct) ∧ u.cell? ⟨w.heap.size, 10, none⟩ = some (.bool x.tn.over) ∧ u.cell? ⟨w.heap.size, 11, none⟩ = some (.int .i64 x.tn.cd) ∧ u.cell? ⟨w.heap.size, 12, none⟩ = some (.string x.tn.tx) ∧ u.cell? ⟨w.heap.size, 13, none⟩ = some (.bool x.tn.has) ∧ u.cell? ⟨w.heap.size, 14, none⟩ = some (.string x.tn.nm) ∧ u.cell? ⟨w.heap.size, 15, none⟩ = some (.int .i64 x.tn.st) ∧ u.cell? ⟨bk, 0, none⟩ = some (.string ⟨#[104, 101, 114, 101]⟩) ∧ u.cell? ⟨bk, 1, none⟩ = some (.func (.func 82) #[] #[]) ∧ u.cell? ⟨bk, 2, none⟩ = some (.func (.func 83) #[] #[]) ∧ u.cell? ⟨bk, 3, none⟩ = some (.func (.func 84) #[] #[]))) (by kernel_rfl) ?_ (fun hHeld => ?_)
    · ((try dsimp only); go_keep)
    refine wpAnyH_take (i := 0) (oi := { dst := some 20, op := Op.fieldAddr 74 (Operand.tmp 5) 0, type := 0, pos := "l7_mail.go:41", after := #[], guard := none }) (v := ?_) rfl (by kernel_rfl) (by kernel_rfl) (by kernel_rfl) (fun _ _ _ h => h) (Or.inl ⟨by rfl, ?_⟩) (by assumption) ?_
    rotate_left
    · intro wq hSw
      (try dsimp only at hSw)
      go_simp
      try with_reducible rfl
    try simp only [Act.put, List.setIfInBounds_toArray, List.set_cons_zero, List.set_cons_succ]
    refine wpAnyH_take (i := 1) (oi := { dst := some 21, op := Op.load 9 (Operand.tmp 20), type := 9, pos := "l7_mail.go:41", after := #[{ on := 0, ground := Ground.data }], guard := none }) (v := ?_) rfl (by kernel_rfl) (by kernel_rfl) (by kernel_rfl) (fun _ _ _ h => h) (Or.inl ⟨by rfl, ?_⟩) (by assumption) ?_
    rotate_left
    · intro wq hSw
      (try dsimp only at hSw)
      go_simp
      try with_reducible rfl
    try simp only [Act.put, List.setIfInBounds_toArray, List.set_cons_zero, List.set_cons_succ]
    refine wpAnyH_take (i := 2) (oi := { dst := some 22, op := Op.binOp BinOp.add 9 (Operand.tmp 21) (Operand.const (Value.string { data := #[32] })) 9, type := 9, pos := "l7_mail.go:41", after := #[{ on := 1, ground := Ground.data }], guard := none }) (v := ?_) rfl (by kernel_rfl) (by kernel_rfl) (by kernel_rfl) (fun _ _ _ h => h) (Or.inl ⟨by rfl, ?_⟩) (by assumption) ?_
    rotate_left
    · intro wq hSw
      (try dsimp only at hSw)
      go_simp
      try with_reducible rfl
    try simp only [Act.put, List.setIfInBounds_toArray, List.set_cons_zero, List.set_cons_succ]
    refine wpAnyH_take (i := 3) (oi := { dst := some 23, op := Op.fieldAddr 74 (Operand.tmp 5) 2, type := 0, pos := "l7_mail.go:41", after := #[], guard := none }) (v := ?_) rfl (by kernel_rfl) (by kernel_rfl) (by kernel_rfl) (fun _ _ _ h => h) (Or.inl ⟨by rfl, ?_⟩) (by assumption) ?_
    rotate_left
    · intro wq hSw
      (try dsimp only at hSw)
      go_simp
      try with_reducible rfl
    try simp only [Act.put, List.setIfInBounds_toArray, List.set_cons_zero, List.set_cons_succ]
    refine wpAnyH_take (i := 4) (oi := { dst := some 24, op := Op.load 61 (Operand.tmp 23), type := 61, pos := "l7_mail.go:41", after := #[{ on := 3, ground := Ground.data }], guard := none }) (v := ?_) rfl (by kernel_rfl) (by kernel_rfl) (by kernel_rfl) (fun _ _ _ h => h) (Or.inl ⟨by rfl, ?_⟩) (by assumption) ?_
    rotate_left
    · intro wq hSw
      (try dsimp only at hSw)
      go_simp
      try with_reducible rfl
    try simp only [Act.put, List.setIfInBounds_toArray, List.set_cons_zero, List.set_cons_succ]
    refine wpAnyH_take (i := 5) (oi := { dst := some 25, op := Op.load 41 (Operand.tmp 2), type := 41, pos := "l7_mail.go:41", after := #[], guard := none }) (v := ?_) rfl (by kernel_rfl) (by kernel_rfl) (by kernel_rfl) (fun _ _ _ h => h) (Or.inl ⟨by rfl, ?_⟩) (by assumption) ?_
    rotate_left
    · intro wq hSw
      (try dsimp only at hSw)
      go_simp
      try with_reducible rfl
    try simp only [Act.put, List.setIfInBounds_toArray, List.set_cons_zero, List.set_cons_succ]
    refine wpAnyH_ready (rs := [6]) (by kernel_rfl) (by simp) ?_
    refine AllReadyH.cons (o := { dst := some 26, op := Op.call { callee := Callee.value (Operand.tmp 24), args := #[Operand.tmp 25], argTypes := #[41] }, type := 9, pos := "l7_mail.go:41", after := #[{ on := 4, ground := Ground.data }, { on := 5, ground := Ground.data }], guard := none }) rfl (fun K hK => ?_) AllReadyH.nil
    go_simp
    refine (c83 x 3 ai ci _ (pow_below HPV.out ((Below.refl _ _).drew)) r1 r2).mono ?_
    rintro e p4 ⟨rfl, hb4⟩
    have HS4 : Hid (Below p3.heap.size p3 p4) := ((Below.refl _ _).drew).trans hb4
    clear hb4
    have c4_0 := (HS4.out.cell (p := ⟨w.heap.size, 0, none⟩) (by exact hz3)).trans c3_0
    have c4_1 := (HS4.out.cell (p := ⟨w.heap.size, 1, none⟩) (by exact hz3)).trans c3_1
    have c4_2 := (HS4.out.cell (p := ⟨w.heap.size, 2, none⟩) (by exact hz3)).trans c3_2
    have c4_3 := (HS4.out.cell (p := ⟨w.heap.size, 3, none⟩) (by exact hz3)).trans c3_3
    have c4_4 := (HS4.out.cell (p := ⟨w.heap.size, 4, none⟩) (by exact hz3)).trans c3_4
    have c4_5 := (HS4.out.cell (p := ⟨w.heap.size, 5, none⟩) (by exact hz3)).trans c3_5
    have c4_6 := (HS4.out.cell (p := ⟨w.heap.size, 6, none⟩) (by exact hz3)).trans c3_6
    have c4_7 := (HS4.out.cell (p := ⟨w.heap.size, 7, none⟩) (by exact hz3)).trans c3_7
    have c4_8 := (HS4.out.cell (p := ⟨w.heap.size, 8, none⟩) (by exact hz3)).trans c3_8
    have c4_9 := (HS4.out.cell (p := ⟨w.heap.size, 9, none⟩) (by exact hz3)).trans c3_9
    have c4_10 := (HS4.out.cell (p := ⟨w.heap.size, 10, none⟩) (by exact hz3)).trans c3_10
    have c4_11 := (HS4.out.cell (p := ⟨w.heap.size, 11, none⟩) (by exact hz3)).trans c3_11
    have c4_12 := (HS4.out.cell (p := ⟨w.heap.size, 12, none⟩) (by exact hz3)).trans c3_12
    have c4_13 := (HS4.out.cell (p := ⟨w.heap.size, 13, none⟩) (by exact hz3)).trans c3_13
    have c4_14 := (HS4.out.cell (p := ⟨w.heap.size, 14, none⟩) (by exact hz3)).trans c3_14
    have c4_15 := (HS4.out.cell (p := ⟨w.heap.size, 15, none⟩) (by exact hz3)).trans c3_15
    have u0 := (HS4.out.cell (p := ⟨bk, 0, none⟩) (by exact hq)).trans q0
    have u1 := (HS4.out.cell (p := ⟨bk, 1, none⟩) (by exact hq)).trans q1
    have u2 := (HS4.out.cell (p := ⟨bk, 2, none⟩) (by exact hq)).trans q2
    have u3 := (HS4.out.cell (p := ⟨bk, 3, none⟩) (by exact hq)).trans q3

    go_wp2_with fail
    clear hHeld
    refine hK.out _ _ ?_ (fun hHeld => ?_)
    · ((try dsimp only); go_keep)
    clear hK K
    try simp only [Act.put, List.setIfInBounds_toArray, List.set_cons_zero, List.set_cons_succ]
    refine wpAnyH_take (i := 7) (oi := { dst := some 27, op := Op.binOp BinOp.add 9 (Operand.tmp 22) (Operand.tmp 26) 9, type := 9, pos := "l7_mail.go:41", after := #[{ on := 2, ground := Ground.data }, { on := 6, ground := Ground.data }], guard := none }) (v := ?_) rfl (by kernel_rfl) (by kernel_rfl) (by kernel_rfl) (fun _ _ _ h => h) (Or.inl ⟨by rfl, ?_⟩) (by assumption) ?_
    rotate_left
    · intro wq hSw
      (try dsimp only at hSw)
      go_simp
      try with_reducible rfl
    try simp only [Act.put, List.setIfInBounds_toArray, List.set_cons_zero, List.set_cons_succ]
    refine wpAnyH_take (i := 8) (oi := { dst := some 6, op := Op.assign (Operand.tmp 27), type := 9, pos := "l7_mail.go:41", after := #[{ on := 7, ground := Ground.data }, { on := 6, ground := Ground.chain }, { on := 0, ground := Ground.phase }, { on := 1, ground := Ground.phase }, { on := 2, ground := Ground.phase }, { on := 3, ground := Ground.phase }, { on := 4, ground := Ground.phase }, { on := 5, ground := Ground.phase }, { on := 6, ground := Ground.phase }, { on := 7, ground := Ground.phase }], guard := none }) (v := ?_) rfl (by kernel_rfl) (by kernel_rfl) (by kernel_rfl) (fun _ _ _ h => h) (Or.inl ⟨by rfl, ?_⟩) (by assumption) ?_
    rotate_left
    · intro wq hSw
      (try dsimp only at hSw)
      go_simp
      try with_reducible rfl
    try simp only [Act.put, List.setIfInBounds_toArray, List.set_cons_zero, List.set_cons_succ]
    refine wpAnyH_done (by kernel_rfl) ?_ _
    clear hHeld
    have hB4 : Below w.heap.size w p4 := (hBw1.trans (HV.out.mono hBw1.size)).trans (HS4.out.mono (hBw1.trans (HV.out.mono hBw1.size)).size)
    rw [HE.out]
    go_wp2_with fail
    refine (c41 (ofL (hereL x)) key _ (by omega) (by omega)).mono ?_
    rintro e p5 ⟨rfl, hb5⟩
    have hB5 : Below w.heap.size w p5 := hB4.trans (hb5.mono hB4.size)
    clear hb5
    have k3 : ¬ 9223372036854775807 < (tagS (ofL (hereL x)) key).size + (ofL (hereL x)).size := by omega
    go_wp2
    go_ret
    exact ⟨rfl, hB5⟩
end Go.Proofs.YtdcgjdgpiogdaaaGreatDoor
namespace Go.Proofs.YtdcgjdgpiogdaaaGreatDoor
open Go.RowKit
set_option maxHeartbeats 16000000 in
set_option maxRecDepth 100000 in
theorem c15_2 (x : G16) (key : ByteArray) (ai : Option Addr) (ci : Nat) (w : World) (hp : Pow w) (hs : x.le 1048576) (hk : key.size ≤ 30) (hok : TurnOkM x) :
    Calls Tryz.prog 15 #[.agg #[.int .i64 2, .int .i64 x.to, .int .i64 x.fr, .int .i64 x.ep, .int .i64 x.ed, .string x.km.nm, .string x.km.tl, .string x.km.ar, .slice ai x.ls.length ci, .int .i64 x.ct, .bool x.tn.over, .int .i64 x.tn.cd, .string x.tn.tx, .bool x.tn.has, .string x.tn.nm, .int .i64 x.tn.st], .string key] w fun e w' => e = .returned (.string (tagS (ofL (turnL x)) key ++ ofL (turnL x))) ∧ Below w.heap.size w w' := by
  have hB0 : ∀ o, Below w.heap.size w (w.alloc o) := fun o => (Below.refl _ _).alloc (Nat.le_refl _) _
  have HS : Hid (x.le 1048576) := hs
  have HOK : Hid (TurnOkM x) := hok
  have HP : Hid (Pow w) := hp
  have hd : decide (key.size ≤ 30) = true := by simpa using hk
  have hIx := ix_way2
  have hsf : ∀ (w : World) (a : Addr) (f : Fn) (x y : Array Value) (m : Mode), (store a (.func f x y) m).run Tryz.prog w = stored Tryz.prog w a (.func f x y) m := fun w a f x y m => run_store _ _ _ _ _ rfl
  have r1 : 0 ≤ x.fr ∧ x.fr ≤ 1000 := by have := hok.2.1; omega
  have r2 : 0 ≤ x.ep ∧ x.ep ≤ 1000 := by have := mom_le hok.2.2.1; omega
  have r3 : 0 ≤ x.ed ∧ x.ed ≤ 1000 := by have := mom_le hok.2.2.1; omega
  have r4 : 0 ≤ x.ct ∧ x.ct ≤ 1000 := by have := hok.2.2.2.2.1; omega
  have r5 : 0 ≤ x.tn.st ∧ x.tn.st ≤ 1000 := by have := hok.2.2.2.2.2.1; omega
  have r6 : 0 ≤ x.tn.cd ∧ x.tn.cd ≤ 1000 := by
    rcases hok.2.2.2.2.2.2 with ⟨_, h, _⟩ | ⟨_, h, _⟩
    · have := vr_code h; omega
    · omega
  have s1 : x.km.nm.size ≤ 1048576 := hs.1.1
  have s2 : x.tn.tx.size ≤ 1048576 := hs.2.2.1
  have s3 : x.tn.nm.size ≤ 1048576 := hs.2.2.2
  have HE : Hid ((⟨#[116, 117, 114, 110]⟩ : ByteArray) ++ ⟨#[32]⟩ ++ ofL (turnW x) = ofL (turnL x)) := by
    show ofL [116, 117, 114, 110] ++ ofL [32] ++ ofL (turnW x) = _
    rw [cat_ofL, cat_ofL]
    rfl
  have zW : (ofL (turnL x)).size ≤ 15000 := by rw [ofL_size]; exact (turn_len hok).1
  have zw : (ofL (turnW x)).size ≤ 15000 := by
    have h := congrArg ByteArray.size HE.out
    simp only [ByteArray.size_append] at h
    omega
  have z8 : (tagS (ofL (turnL x)) key).size = 8 := tag_size _ key hk
  clear hs hok hp
  go_enter Tryz.func15, Tryz.ntmps15
  go_wp2_with fail
  refine (c38_2 x ai ci _ HS.out).mono ?_
  rintro e w1 ⟨⟨r, rfl, hr⟩, hb1⟩
  have hrt : r = true := hr.2 HOK.out
  subst hrt
  have HX1 : Hid (Below (w.heap.size + 1) (w.alloc (.cells #[.int .i64 2, .int .i64 x.to, .int .i64 x.fr, .int .i64 x.ep, .int .i64 x.ed, .string x.km.nm, .string x.km.tl, .string x.km.ar, .slice ai x.ls.length ci, .int .i64 x.ct, .bool x.tn.over, .int .i64 x.tn.cd, .string x.tn.tx, .bool x.tn.has, .string x.tn.nm, .int .i64 x.tn.st] 41)) w1) := by have h := hb1; simp at h; exact h
  have hz0 : w.heap.size < w1.heap.size := by have h := HX1.out.size; simp at h; omega
  have hBw1 : Below w.heap.size w w1 := (hB0 _).trans (HX1.out.mono (by omega))
  have c0_0 : w1.cell? ⟨w.heap.size, 0, none⟩ = some (.int .i64 2) := (HX1.out.cell (p := ⟨w.heap.size, 0, none⟩) (by show w.heap.size < w.heap.size + 1; omega)).trans (by simp [go_sem])
  have c0_1 : w1.cell? ⟨w.heap.size, 1, none⟩ = some (.int .i64 x.to) := (HX1.out.cell (p := ⟨w.heap.size, 1, none⟩) (by show w.heap.size < w.heap.size + 1; omega)).trans (by simp [go_sem])
  have c0_2 : w1.cell? ⟨w.heap.size, 2, none⟩ = some (.int .i64 x.fr) := (HX1.out.cell (p := ⟨w.heap.size, 2, none⟩) (by show w.heap.size < w.heap.size + 1; omega)).trans (by simp [go_sem])
  have c0_3 : w1.cell? ⟨w.heap.size, 3, none⟩ = some (.int .i64 x.ep) := (HX1.out.cell (p := ⟨w.heap.size, 3, none⟩) (by show w.heap.size < w.heap.size + 1; omega)).trans (by simp [go_sem])
  have c0_4 : w1.cell? ⟨w.heap.size, 4, none⟩ = some (.int .i64 x.ed) := (HX1.out.cell (p := ⟨w.heap.size, 4, none⟩) (by show w.heap.size < w.heap.size + 1; omega)).trans (by simp [go_sem])
  have c0_5 : w1.cell? ⟨w.heap.size, 5, none⟩ = some (.string x.km.nm) := (HX1.out.cell (p := ⟨w.heap.size, 5, none⟩) (by show w.heap.size < w.heap.size + 1; omega)).trans (by simp [go_sem])
  have c0_6 : w1.cell? ⟨w.heap.size, 6, none⟩ = some (.string x.km.tl) := (HX1.out.cell (p := ⟨w.heap.size, 6, none⟩) (by show w.heap.size < w.heap.size + 1; omega)).trans (by simp [go_sem])
  have c0_7 : w1.cell? ⟨w.heap.size, 7, none⟩ = some (.string x.km.ar) := (HX1.out.cell (p := ⟨w.heap.size, 7, none⟩) (by show w.heap.size < w.heap.size + 1; omega)).trans (by simp [go_sem])
  have c0_8 : w1.cell? ⟨w.heap.size, 8, none⟩ = some (.slice ai x.ls.length ci) := (HX1.out.cell (p := ⟨w.heap.size, 8, none⟩) (by show w.heap.size < w.heap.size + 1; omega)).trans (by simp [go_sem])
  have c0_9 : w1.cell? ⟨w.heap.size, 9, none⟩ = some (.int .i64 x.ct) := (HX1.out.cell (p := ⟨w.heap.size, 9, none⟩) (by show w.heap.size < w.heap.size + 1; omega)).trans (by simp [go_sem])
  have c0_10 : w1.cell? ⟨w.heap.size, 10, none⟩ = some (.bool x.tn.over) := (HX1.out.cell (p := ⟨w.heap.size, 10, none⟩) (by show w.heap.size < w.heap.size + 1; omega)).trans (by simp [go_sem])
  have c0_11 : w1.cell? ⟨w.heap.size, 11, none⟩ = some (.int .i64 x.tn.cd) := (HX1.out.cell (p := ⟨w.heap.size, 11, none⟩) (by show w.heap.size < w.heap.size + 1; omega)).trans (by simp [go_sem])
  have c0_12 : w1.cell? ⟨w.heap.size, 12, none⟩ = some (.string x.tn.tx) := (HX1.out.cell (p := ⟨w.heap.size, 12, none⟩) (by show w.heap.size < w.heap.size + 1; omega)).trans (by simp [go_sem])
  have c0_13 : w1.cell? ⟨w.heap.size, 13, none⟩ = some (.bool x.tn.has) := (HX1.out.cell (p := ⟨w.heap.size, 13, none⟩) (by show w.heap.size < w.heap.size + 1; omega)).trans (by simp [go_sem])
  have c0_14 : w1.cell? ⟨w.heap.size, 14, none⟩ = some (.string x.tn.nm) := (HX1.out.cell (p := ⟨w.heap.size, 14, none⟩) (by show w.heap.size < w.heap.size + 1; omega)).trans (by simp [go_sem])
  have c0_15 : w1.cell? ⟨w.heap.size, 15, none⟩ = some (.int .i64 x.tn.st) := (HX1.out.cell (p := ⟨w.heap.size, 15, none⟩) (by show w.heap.size < w.heap.size + 1; omega)).trans (by simp [go_sem])
  clear hr hb1 HX1
  go_wp2_with fail
  refine (c39 key _ (by omega)).mono ?_
  rintro e w2 ⟨rfl, hw2⟩
  obtain rfl := hw2.symm
  rw [hd]
  go_wp2_with fail
  refine wp_region_held_drew (S := (fun u => u.cell? ⟨w.heap.size, 0, none⟩ = some (.int .i64 2) ∧ u.cell? ⟨w.heap.size, 1, none⟩ = some (.int .i64 x.to) ∧ u.cell? ⟨w.heap.size, 2, none⟩ = some (.int .i64 x.fr) ∧ u.cell? ⟨w.heap.size, 3, none⟩ = some (.int .i64 x.ep) ∧ u.cell? ⟨w.heap.size, 4, none⟩ = some (.int .i64 x.ed) ∧ u.cell? ⟨w.heap.size, 5, none⟩ = some (.string x.km.nm) ∧ u.cell? ⟨w.heap.size, 6, none⟩ = some (.string x.km.tl) ∧ u.cell? ⟨w.heap.size, 7, none⟩ = some (.string x.km.ar) ∧ u.cell? ⟨w.heap.size, 8, none⟩ = some (.slice ai x.ls.length ci) ∧ u.cell? ⟨w.heap.size, 9, none⟩ = some (.int .i64 x.ct) ∧ u.cell? ⟨w.heap.size, 10, none⟩ = some (.bool x.tn.over) ∧ u.cell? ⟨w.heap.size, 11, none⟩ = some (.int .i64 x.tn.cd) ∧ u.cell? ⟨w.heap.size, 12, none⟩ = some (.string x.tn.tx) ∧ u.cell? ⟨w.heap.size, 13, none⟩ = some (.bool x.tn.has) ∧ u.cell? ⟨w.heap.size, 14, none⟩ = some (.string x.tn.nm) ∧ u.cell? ⟨w.heap.size, 15, none⟩ = some (.int .i64 x.tn.st))) (by kernel_rfl) ?_ (fun hHeld => ?_)
  · ((try dsimp only); go_keep)
  refine wpAnyH_take (i := 1) (oi := { dst := some 17, op := Op.fieldAddr 41 (Operand.tmp 2) 0, type := 0, pos := "l7_mail.go:40", after := #[], guard := none }) (v := ?_) rfl (by kernel_rfl) (by kernel_rfl) (by kernel_rfl) (fun _ _ _ h => h) (Or.inl ⟨by rfl, ?_⟩) (by assumption) ?_
  rotate_left
  · intro wq hSw
    (try dsimp only at hSw)
    go_simp
    try with_reducible rfl
  try simp only [Act.put, List.setIfInBounds_toArray, List.set_cons_zero, List.set_cons_succ]
  refine wpAnyH_take (i := 2) (oi := { dst := some 18, op := Op.load 3 (Operand.tmp 17), type := 3, pos := "l7_mail.go:40", after := #[{ on := 1, ground := Ground.data }], guard := none }) (v := ?_) rfl (by kernel_rfl) (by kernel_rfl) (by kernel_rfl) (fun _ _ _ h => h) (Or.inl ⟨by rfl, ?_⟩) (by assumption) ?_
  rotate_left
  · intro wq hSw
    (try dsimp only at hSw)
    go_simp
    try with_reducible rfl
  try simp only [Act.put, List.setIfInBounds_toArray, List.set_cons_zero, List.set_cons_succ]
  refine wpAnyH_ready (rs := [0, 4]) (by kernel_rfl) (by simp) ?_
  refine AllReadyH.cons (o := { dst := some 16, op := Op.call { callee := Callee.value (Operand.func 40), args := #[], argTypes := #[] }, type := 75, pos := "l7_mail.go:40", after := #[], guard := none }) rfl (fun K hK => ?_) (AllReadyH.cons (o := { dst := some 5, op := Op.alloc 74, type := 0, pos := "l7_mail.go:40", after := #[], guard := none }) rfl (fun K hK => ?_) AllReadyH.nil)
  · go_simp
    refine (c40 _).mono ?_
    rintro e p1 ⟨rfl, hb1⟩
    have HS1 : Hid (Below w1.heap.size w1 p1) := ((Below.refl _ _).drew).trans hb1
    clear hb1
    have c1_0 := (HS1.out.cell (p := ⟨w.heap.size, 0, none⟩) (by exact hz0)).trans c0_0
    have c1_1 := (HS1.out.cell (p := ⟨w.heap.size, 1, none⟩) (by exact hz0)).trans c0_1
    have c1_2 := (HS1.out.cell (p := ⟨w.heap.size, 2, none⟩) (by exact hz0)).trans c0_2
    have c1_3 := (HS1.out.cell (p := ⟨w.heap.size, 3, none⟩) (by exact hz0)).trans c0_3
    have c1_4 := (HS1.out.cell (p := ⟨w.heap.size, 4, none⟩) (by exact hz0)).trans c0_4
    have c1_5 := (HS1.out.cell (p := ⟨w.heap.size, 5, none⟩) (by exact hz0)).trans c0_5
    have c1_6 := (HS1.out.cell (p := ⟨w.heap.size, 6, none⟩) (by exact hz0)).trans c0_6
    have c1_7 := (HS1.out.cell (p := ⟨w.heap.size, 7, none⟩) (by exact hz0)).trans c0_7
    have c1_8 := (HS1.out.cell (p := ⟨w.heap.size, 8, none⟩) (by exact hz0)).trans c0_8
    have c1_9 := (HS1.out.cell (p := ⟨w.heap.size, 9, none⟩) (by exact hz0)).trans c0_9
    have c1_10 := (HS1.out.cell (p := ⟨w.heap.size, 10, none⟩) (by exact hz0)).trans c0_10
    have c1_11 := (HS1.out.cell (p := ⟨w.heap.size, 11, none⟩) (by exact hz0)).trans c0_11
    have c1_12 := (HS1.out.cell (p := ⟨w.heap.size, 12, none⟩) (by exact hz0)).trans c0_12
    have c1_13 := (HS1.out.cell (p := ⟨w.heap.size, 13, none⟩) (by exact hz0)).trans c0_13
    have c1_14 := (HS1.out.cell (p := ⟨w.heap.size, 14, none⟩) (by exact hz0)).trans c0_14
    have c1_15 := (HS1.out.cell (p := ⟨w.heap.size, 15, none⟩) (by exact hz0)).trans c0_15
    clear c0_0 c0_1 c0_2 c0_3 c0_4 c0_5 c0_6 c0_7 c0_8 c0_9 c0_10 c0_11 c0_12 c0_13 c0_14 c0_15
    have hz1 : w.heap.size < p1.heap.size := Nat.lt_of_lt_of_le hz0 HS1.out.size
    go_wp2_with fail
    clear hHeld
    refine hK.out _ _ ?_ (fun hHeld => ?_)
    · ((try dsimp only); go_keep)
    clear hK K
    try simp only [Act.put, List.setIfInBounds_toArray, List.set_cons_zero, List.set_cons_succ]
    refine wpAnyH_take (i := 3) (oi := { dst := some 19, op := Op.index 75 (Operand.tmp 16) (Operand.tmp 18), type := 74, pos := "l7_mail.go:40", after := #[{ on := 0, ground := Ground.data }, { on := 2, ground := Ground.data }], guard := none }) (v := ?_) rfl (by kernel_rfl) (by kernel_rfl) (by kernel_rfl) (fun _ _ _ h => h) (Or.inl ⟨by rfl, ?_⟩) (by assumption) ?_
    rotate_left
    · intro wq hSw
      (try dsimp only at hSw)
      go_simp
      try with_reducible rfl
    try simp only [Act.put, List.setIfInBounds_toArray, List.set_cons_zero, List.set_cons_succ]
    refine wpAnyH_ready (rs := [4]) (by kernel_rfl) (by simp) ?_
    refine AllReadyH.cons (o := { dst := some 5, op := Op.alloc 74, type := 0, pos := "l7_mail.go:40", after := #[], guard := none }) rfl (fun K hK => ?_) AllReadyH.nil
    go_simp
    have HSA : Hid (Below p1.heap.size p1 (p1.alloc (.cells #[.string ⟨#[]⟩, .nilFunc, .nilFunc, .nilFunc] 74))) := (Below.refl _ _).alloc (Nat.le_refl _) _
    have c2_0 := (HSA.out.cell (p := ⟨w.heap.size, 0, none⟩) (by exact hz1)).trans c1_0
    have c2_1 := (HSA.out.cell (p := ⟨w.heap.size, 1, none⟩) (by exact hz1)).trans c1_1
    have c2_2 := (HSA.out.cell (p := ⟨w.heap.size, 2, none⟩) (by exact hz1)).trans c1_2
    have c2_3 := (HSA.out.cell (p := ⟨w.heap.size, 3, none⟩) (by exact hz1)).trans c1_3
    have c2_4 := (HSA.out.cell (p := ⟨w.heap.size, 4, none⟩) (by exact hz1)).trans c1_4
    have c2_5 := (HSA.out.cell (p := ⟨w.heap.size, 5, none⟩) (by exact hz1)).trans c1_5
    have c2_6 := (HSA.out.cell (p := ⟨w.heap.size, 6, none⟩) (by exact hz1)).trans c1_6
    have c2_7 := (HSA.out.cell (p := ⟨w.heap.size, 7, none⟩) (by exact hz1)).trans c1_7
    have c2_8 := (HSA.out.cell (p := ⟨w.heap.size, 8, none⟩) (by exact hz1)).trans c1_8
    have c2_9 := (HSA.out.cell (p := ⟨w.heap.size, 9, none⟩) (by exact hz1)).trans c1_9
    have c2_10 := (HSA.out.cell (p := ⟨w.heap.size, 10, none⟩) (by exact hz1)).trans c1_10
    have c2_11 := (HSA.out.cell (p := ⟨w.heap.size, 11, none⟩) (by exact hz1)).trans c1_11
    have c2_12 := (HSA.out.cell (p := ⟨w.heap.size, 12, none⟩) (by exact hz1)).trans c1_12
    have c2_13 := (HSA.out.cell (p := ⟨w.heap.size, 13, none⟩) (by exact hz1)).trans c1_13
    have c2_14 := (HSA.out.cell (p := ⟨w.heap.size, 14, none⟩) (by exact hz1)).trans c1_14
    have c2_15 := (HSA.out.cell (p := ⟨w.heap.size, 15, none⟩) (by exact hz1)).trans c1_15

    clear hHeld
    refine hK.out _ _ ?_ (fun hHeld => ?_)
    · ((try dsimp only); go_keep)
    clear hK K
    try simp only [Act.put, List.setIfInBounds_toArray, List.set_cons_zero, List.set_cons_succ]
    refine wpAnyH_ready (rs := [5]) (by kernel_rfl) (by simp) ?_
    refine AllReadyH.cons (o := { dst := none, op := Op.store 74 (Operand.tmp 5) (Operand.tmp 19), type := 0, pos := "l7_mail.go:40", after := #[{ on := 4, ground := Ground.data }, { on := 3, ground := Ground.data }, { on := 0, ground := Ground.chain }, { on := 0, ground := Ground.phase }, { on := 1, ground := Ground.phase }, { on := 2, ground := Ground.phase }, { on := 3, ground := Ground.phase }, { on := 4, ground := Ground.phase }], guard := none }) rfl (fun K hK => ?_) AllReadyH.nil
    go_simp
    have HSB : Hid (Below p1.heap.size p1 (p1.alloc (.cells #[.string ⟨#[116, 117, 114, 110]⟩, .func (.func 79) #[] #[], .func (.func 80) #[] #[], .func (.func 81) #[] #[]] 74))) := (Below.refl _ _).alloc (Nat.le_refl _) _
    clear HSA c2_0 c2_1 c2_2 c2_3 c2_4 c2_5 c2_6 c2_7 c2_8 c2_9 c2_10 c2_11 c2_12 c2_13 c2_14 c2_15
    have c3_0 := (HSB.out.cell (p := ⟨w.heap.size, 0, none⟩) (by exact hz1)).trans c1_0
    have c3_1 := (HSB.out.cell (p := ⟨w.heap.size, 1, none⟩) (by exact hz1)).trans c1_1
    have c3_2 := (HSB.out.cell (p := ⟨w.heap.size, 2, none⟩) (by exact hz1)).trans c1_2
    have c3_3 := (HSB.out.cell (p := ⟨w.heap.size, 3, none⟩) (by exact hz1)).trans c1_3
    have c3_4 := (HSB.out.cell (p := ⟨w.heap.size, 4, none⟩) (by exact hz1)).trans c1_4
    have c3_5 := (HSB.out.cell (p := ⟨w.heap.size, 5, none⟩) (by exact hz1)).trans c1_5
    have c3_6 := (HSB.out.cell (p := ⟨w.heap.size, 6, none⟩) (by exact hz1)).trans c1_6
    have c3_7 := (HSB.out.cell (p := ⟨w.heap.size, 7, none⟩) (by exact hz1)).trans c1_7
    have c3_8 := (HSB.out.cell (p := ⟨w.heap.size, 8, none⟩) (by exact hz1)).trans c1_8
    have c3_9 := (HSB.out.cell (p := ⟨w.heap.size, 9, none⟩) (by exact hz1)).trans c1_9
    have c3_10 := (HSB.out.cell (p := ⟨w.heap.size, 10, none⟩) (by exact hz1)).trans c1_10
    have c3_11 := (HSB.out.cell (p := ⟨w.heap.size, 11, none⟩) (by exact hz1)).trans c1_11
    have c3_12 := (HSB.out.cell (p := ⟨w.heap.size, 12, none⟩) (by exact hz1)).trans c1_12
    have c3_13 := (HSB.out.cell (p := ⟨w.heap.size, 13, none⟩) (by exact hz1)).trans c1_13
    have c3_14 := (HSB.out.cell (p := ⟨w.heap.size, 14, none⟩) (by exact hz1)).trans c1_14
    have c3_15 := (HSB.out.cell (p := ⟨w.heap.size, 15, none⟩) (by exact hz1)).trans c1_15
    have q0 : (p1.alloc (.cells #[.string ⟨#[116, 117, 114, 110]⟩, .func (.func 79) #[] #[], .func (.func 80) #[] #[], .func (.func 81) #[] #[]] 74)).cell? ⟨p1.heap.size, 0, none⟩ = some (.string ⟨#[116, 117, 114, 110]⟩) := by simp [go_sem]
    have q1 : (p1.alloc (.cells #[.string ⟨#[116, 117, 114, 110]⟩, .func (.func 79) #[] #[], .func (.func 80) #[] #[], .func (.func 81) #[] #[]] 74)).cell? ⟨p1.heap.size, 1, none⟩ = some (.func (.func 79) #[] #[]) := by simp [go_sem]
    have q2 : (p1.alloc (.cells #[.string ⟨#[116, 117, 114, 110]⟩, .func (.func 79) #[] #[], .func (.func 80) #[] #[], .func (.func 81) #[] #[]] 74)).cell? ⟨p1.heap.size, 2, none⟩ = some (.func (.func 80) #[] #[]) := by simp [go_sem]
    have q3 : (p1.alloc (.cells #[.string ⟨#[116, 117, 114, 110]⟩, .func (.func 79) #[] #[], .func (.func 80) #[] #[], .func (.func 81) #[] #[]] 74)).cell? ⟨p1.heap.size, 3, none⟩ = some (.func (.func 81) #[] #[]) := by simp [go_sem]
    have hq : p1.heap.size < (p1.alloc (.cells #[.string ⟨#[116, 117, 114, 110]⟩, .func (.func 79) #[] #[], .func (.func 80) #[] #[], .func (.func 81) #[] #[]] 74)).heap.size := by simp
    have HV : Hid (Below w1.heap.size w1 (p1.alloc (.cells #[.string ⟨#[116, 117, 114, 110]⟩, .func (.func 79) #[] #[], .func (.func 80) #[] #[], .func (.func 81) #[] #[]] 74))) := HS1.out.trans (HSB.out.mono HS1.out.size)
    have hz3 : w.heap.size < (p1.alloc (.cells #[.string ⟨#[116, 117, 114, 110]⟩, .func (.func 79) #[] #[], .func (.func 80) #[] #[], .func (.func 81) #[] #[]] 74)).heap.size := by simp; omega
    clear HSB HS1 c1_0 c1_1 c1_2 c1_3 c1_4 c1_5 c1_6 c1_7 c1_8 c1_9 c1_10 c1_11 c1_12 c1_13 c1_14 c1_15
    clear hHeld
    refine hK.out _ _ ?_ (fun hHeld => ?_)
    · ((try dsimp only); go_keep)
    clear hK K
    try simp only [Act.put, List.setIfInBounds_toArray, List.set_cons_zero, List.set_cons_succ]
    generalize (p1.alloc (.cells #[.string ⟨#[116, 117, 114, 110]⟩, .func (.func 79) #[] #[], .func (.func 80) #[] #[], .func (.func 81) #[] #[]] 74)) = p3 at *
    generalize p1.heap.size = bk at *
    refine wpAnyH_done (by kernel_rfl) ?_ _
    clear hHeld
    have HPV : Hid (Pow p3) := pow_below HP.out (hBw1.trans (HV.out.mono hBw1.size))
    have k1 : ¬ 9223372036854775807 < 4 + 1 + (ofL (turnW x)).size := by omega
    have k2 : ¬ 9223372036854775807 < 5 + (ofL (turnW x)).size := by omega
    go_wp2_with fail
    refine wp_region_held_drew (S := (fun u => u.cell? ⟨w.heap.size, 0, none⟩ = some (.int .i64 2) ∧ u.cell? ⟨w.heap.size, 1, none⟩ = some (.int .i64 x.to) ∧ u.cell? ⟨w.heap.size, 2, none⟩ = some (.int .i64 x.fr) ∧ u.cell? ⟨w.heap.size, 3, none⟩ = some (.int .i64 x.ep) ∧ u.cell? ⟨w.heap.size, 4, none⟩ = some (.int .i64 x.ed) ∧ u.cell? ⟨w.heap.size, 5, none⟩ = some (.string x.km.nm) ∧ u.cell? ⟨w.heap.size, 6, none⟩ = some (.string x.km.tl) ∧ u.cell? ⟨w.heap.size, 7, none⟩ = some (.string x.km.ar) ∧ u.cell? ⟨w.heap.size, 8, none⟩ = some (.slice ai x.ls.length ci) ∧ u.cell? ⟨w.heap.size, 9, none⟩ = some (.int .i64 x.ct) ∧ u.cell? ⟨w.heap.size, 10, none⟩ = some (.bool x.tn.over) ∧ u.cell? ⟨w.heap.size, 11, none⟩ = some (.int .i64 x.tn.cd) ∧ u.cell? ⟨w.heap.size, 12, none⟩ = some (.string x.tn.tx) ∧ u.cell? ⟨w.heap.size, 13, none⟩ = some (.bool x.tn.has) ∧ u.cell? ⟨w.heap.size, 14, none⟩ = some (.string x.tn.nm) ∧ u.cell? ⟨w.heap.size, 15, none⟩ = some (.int .i64 x.tn.st) ∧ u.cell? ⟨bk, 0, none⟩ = some (.string ⟨#[116, 117, 114, 110]⟩) ∧ u.cell? ⟨bk, 1, none⟩ = some (.func (.func 79) #[] #[]) ∧ u.cell? ⟨bk, 2, none⟩ = some (.func (.func 80) #[] #[]) ∧ u.cell? ⟨bk, 3, none⟩ = some (.func (.func 81) #[] #[]))) (by kernel_rfl) ?_ (fun hHeld => ?_)
    · ((try dsimp only); go_keep)
    refine wpAnyH_take (i := 0) (oi := { dst := some 20, op := Op.fieldAddr 74 (Operand.tmp 5) 0, type := 0, pos := "l7_mail.go:41", after := #[], guard := none }) (v := ?_) rfl (by kernel_rfl) (by kernel_rfl) (by kernel_rfl) (fun _ _ _ h => h) (Or.inl ⟨by rfl, ?_⟩) (by assumption) ?_
    rotate_left
    · intro wq hSw
      (try dsimp only at hSw)
      go_simp
      try with_reducible rfl
    try simp only [Act.put, List.setIfInBounds_toArray, List.set_cons_zero, List.set_cons_succ]
    refine wpAnyH_take (i := 1) (oi := { dst := some 21, op := Op.load 9 (Operand.tmp 20), type := 9, pos := "l7_mail.go:41", after := #[{ on := 0, ground := Ground.data }], guard := none }) (v := ?_) rfl (by kernel_rfl) (by kernel_rfl) (by kernel_rfl) (fun _ _ _ h => h) (Or.inl ⟨by rfl, ?_⟩) (by assumption) ?_
    rotate_left
    · intro wq hSw
      (try dsimp only at hSw)
      go_simp
      try with_reducible rfl
    try simp only [Act.put, List.setIfInBounds_toArray, List.set_cons_zero, List.set_cons_succ]
    refine wpAnyH_take (i := 2) (oi := { dst := some 22, op := Op.binOp BinOp.add 9 (Operand.tmp 21) (Operand.const (Value.string { data := #[32] })) 9, type := 9, pos := "l7_mail.go:41", after := #[{ on := 1, ground := Ground.data }], guard := none }) (v := ?_) rfl (by kernel_rfl) (by kernel_rfl) (by kernel_rfl) (fun _ _ _ h => h) (Or.inl ⟨by rfl, ?_⟩) (by assumption) ?_
    rotate_left
    · intro wq hSw
      (try dsimp only at hSw)
      go_simp
      try with_reducible rfl
    try simp only [Act.put, List.setIfInBounds_toArray, List.set_cons_zero, List.set_cons_succ]
    refine wpAnyH_take (i := 3) (oi := { dst := some 23, op := Op.fieldAddr 74 (Operand.tmp 5) 2, type := 0, pos := "l7_mail.go:41", after := #[], guard := none }) (v := ?_) rfl (by kernel_rfl) (by kernel_rfl) (by kernel_rfl) (fun _ _ _ h => h) (Or.inl ⟨by rfl, ?_⟩) (by assumption) ?_
    rotate_left
    · intro wq hSw
      (try dsimp only at hSw)
      go_simp
      try with_reducible rfl
    try simp only [Act.put, List.setIfInBounds_toArray, List.set_cons_zero, List.set_cons_succ]
    refine wpAnyH_take (i := 4) (oi := { dst := some 24, op := Op.load 61 (Operand.tmp 23), type := 61, pos := "l7_mail.go:41", after := #[{ on := 3, ground := Ground.data }], guard := none }) (v := ?_) rfl (by kernel_rfl) (by kernel_rfl) (by kernel_rfl) (fun _ _ _ h => h) (Or.inl ⟨by rfl, ?_⟩) (by assumption) ?_
    rotate_left
    · intro wq hSw
      (try dsimp only at hSw)
      go_simp
      try with_reducible rfl
    try simp only [Act.put, List.setIfInBounds_toArray, List.set_cons_zero, List.set_cons_succ]
    refine wpAnyH_take (i := 5) (oi := { dst := some 25, op := Op.load 41 (Operand.tmp 2), type := 41, pos := "l7_mail.go:41", after := #[], guard := none }) (v := ?_) rfl (by kernel_rfl) (by kernel_rfl) (by kernel_rfl) (fun _ _ _ h => h) (Or.inl ⟨by rfl, ?_⟩) (by assumption) ?_
    rotate_left
    · intro wq hSw
      (try dsimp only at hSw)
      go_simp
      try with_reducible rfl
    try simp only [Act.put, List.setIfInBounds_toArray, List.set_cons_zero, List.set_cons_succ]
    refine wpAnyH_ready (rs := [6]) (by kernel_rfl) (by simp) ?_
    refine AllReadyH.cons (o := { dst := some 26, op := Op.call { callee := Callee.value (Operand.tmp 24), args := #[Operand.tmp 25], argTypes := #[41] }, type := 9, pos := "l7_mail.go:41", after := #[{ on := 4, ground := Ground.data }, { on := 5, ground := Ground.data }], guard := none }) rfl (fun K hK => ?_) AllReadyH.nil
    go_simp
    refine (c80 x 2 ai ci _ (pow_below HPV.out ((Below.refl _ _).drew)) r1 r2 r3 r4 r5 r6 s1 s2 s3).mono ?_
    rintro e p4 ⟨rfl, hb4⟩
    have HS4 : Hid (Below p3.heap.size p3 p4) := ((Below.refl _ _).drew).trans hb4
    clear hb4
    have c4_0 := (HS4.out.cell (p := ⟨w.heap.size, 0, none⟩) (by exact hz3)).trans c3_0
    have c4_1 := (HS4.out.cell (p := ⟨w.heap.size, 1, none⟩) (by exact hz3)).trans c3_1
    have c4_2 := (HS4.out.cell (p := ⟨w.heap.size, 2, none⟩) (by exact hz3)).trans c3_2
    have c4_3 := (HS4.out.cell (p := ⟨w.heap.size, 3, none⟩) (by exact hz3)).trans c3_3
    have c4_4 := (HS4.out.cell (p := ⟨w.heap.size, 4, none⟩) (by exact hz3)).trans c3_4
    have c4_5 := (HS4.out.cell (p := ⟨w.heap.size, 5, none⟩) (by exact hz3)).trans c3_5
    have c4_6 := (HS4.out.cell (p := ⟨w.heap.size, 6, none⟩) (by exact hz3)).trans c3_6
    have c4_7 := (HS4.out.cell (p := ⟨w.heap.size, 7, none⟩) (by exact hz3)).trans c3_7
    have c4_8 := (HS4.out.cell (p := ⟨w.heap.size, 8, none⟩) (by exact hz3)).trans c3_8
    have c4_9 := (HS4.out.cell (p := ⟨w.heap.size, 9, none⟩) (by exact hz3)).trans c3_9
    have c4_10 := (HS4.out.cell (p := ⟨w.heap.size, 10, none⟩) (by exact hz3)).trans c3_10
    have c4_11 := (HS4.out.cell (p := ⟨w.heap.size, 11, none⟩) (by exact hz3)).trans c3_11
    have c4_12 := (HS4.out.cell (p := ⟨w.heap.size, 12, none⟩) (by exact hz3)).trans c3_12
    have c4_13 := (HS4.out.cell (p := ⟨w.heap.size, 13, none⟩) (by exact hz3)).trans c3_13
    have c4_14 := (HS4.out.cell (p := ⟨w.heap.size, 14, none⟩) (by exact hz3)).trans c3_14
    have c4_15 := (HS4.out.cell (p := ⟨w.heap.size, 15, none⟩) (by exact hz3)).trans c3_15
    have u0 := (HS4.out.cell (p := ⟨bk, 0, none⟩) (by exact hq)).trans q0
    have u1 := (HS4.out.cell (p := ⟨bk, 1, none⟩) (by exact hq)).trans q1
    have u2 := (HS4.out.cell (p := ⟨bk, 2, none⟩) (by exact hq)).trans q2
    have u3 := (HS4.out.cell (p := ⟨bk, 3, none⟩) (by exact hq)).trans q3

    go_wp2_with fail
    clear hHeld
    refine hK.out _ _ ?_ (fun hHeld => ?_)
    · ((try dsimp only); go_keep)
    clear hK K
    try simp only [Act.put, List.setIfInBounds_toArray, List.set_cons_zero, List.set_cons_succ]
    refine wpAnyH_take (i := 7) (oi := { dst := some 27, op := Op.binOp BinOp.add 9 (Operand.tmp 22) (Operand.tmp 26) 9, type := 9, pos := "l7_mail.go:41", after := #[{ on := 2, ground := Ground.data }, { on := 6, ground := Ground.data }], guard := none }) (v := ?_) rfl (by kernel_rfl) (by kernel_rfl) (by kernel_rfl) (fun _ _ _ h => h) (Or.inl ⟨by rfl, ?_⟩) (by assumption) ?_
    rotate_left
    · intro wq hSw
      (try dsimp only at hSw)
      go_simp
      try with_reducible rfl
    try simp only [Act.put, List.setIfInBounds_toArray, List.set_cons_zero, List.set_cons_succ]
    refine wpAnyH_take (i := 8) (oi := { dst := some 6, op := Op.assign (Operand.tmp 27), type := 9, pos := "l7_mail.go:41", after := #[{ on := 7, ground := Ground.data }, { on := 6, ground := Ground.chain }, { on := 0, ground := Ground.phase }, { on := 1, ground := Ground.phase }, { on := 2, ground := Ground.phase }, { on := 3, ground := Ground.phase }, { on := 4, ground := Ground.phase }, { on := 5, ground := Ground.phase }, { on := 6, ground := Ground.phase }, { on := 7, ground := Ground.phase }], guard := none }) (v := ?_) rfl (by kernel_rfl) (by kernel_rfl) (by kernel_rfl) (fun _ _ _ h => h) (Or.inl ⟨by rfl, ?_⟩) (by assumption) ?_
    rotate_left
    · intro wq hSw
      (try dsimp only at hSw)
      go_simp
      try with_reducible rfl
    try simp only [Act.put, List.setIfInBounds_toArray, List.set_cons_zero, List.set_cons_succ]
    refine wpAnyH_done (by kernel_rfl) ?_ _
    clear hHeld
    have hB4 : Below w.heap.size w p4 := (hBw1.trans (HV.out.mono hBw1.size)).trans (HS4.out.mono (hBw1.trans (HV.out.mono hBw1.size)).size)
    rw [HE.out]
    go_wp2_with fail
    refine (c41 (ofL (turnL x)) key _ (by omega) (by omega)).mono ?_
    rintro e p5 ⟨rfl, hb5⟩
    have hB5 : Below w.heap.size w p5 := hB4.trans (hb5.mono hB4.size)
    clear hb5
    have k3 : ¬ 9223372036854775807 < (tagS (ofL (turnL x)) key).size + (ofL (turnL x)).size := by omega
    go_wp2
    go_ret
    exact ⟨rfl, hB5⟩
  · go_simp
    have HS1 : Hid (Below w1.heap.size w1 (w1.alloc (.cells #[.string ⟨#[]⟩, .nilFunc, .nilFunc, .nilFunc] 74)).drew) := ((Below.refl _ _).alloc (Nat.le_refl _) _).drew
    have c1_0 := (HS1.out.cell (p := ⟨w.heap.size, 0, none⟩) (by exact hz0)).trans c0_0
    have c1_1 := (HS1.out.cell (p := ⟨w.heap.size, 1, none⟩) (by exact hz0)).trans c0_1
    have c1_2 := (HS1.out.cell (p := ⟨w.heap.size, 2, none⟩) (by exact hz0)).trans c0_2
    have c1_3 := (HS1.out.cell (p := ⟨w.heap.size, 3, none⟩) (by exact hz0)).trans c0_3
    have c1_4 := (HS1.out.cell (p := ⟨w.heap.size, 4, none⟩) (by exact hz0)).trans c0_4
    have c1_5 := (HS1.out.cell (p := ⟨w.heap.size, 5, none⟩) (by exact hz0)).trans c0_5
    have c1_6 := (HS1.out.cell (p := ⟨w.heap.size, 6, none⟩) (by exact hz0)).trans c0_6
    have c1_7 := (HS1.out.cell (p := ⟨w.heap.size, 7, none⟩) (by exact hz0)).trans c0_7
    have c1_8 := (HS1.out.cell (p := ⟨w.heap.size, 8, none⟩) (by exact hz0)).trans c0_8
    have c1_9 := (HS1.out.cell (p := ⟨w.heap.size, 9, none⟩) (by exact hz0)).trans c0_9
    have c1_10 := (HS1.out.cell (p := ⟨w.heap.size, 10, none⟩) (by exact hz0)).trans c0_10
    have c1_11 := (HS1.out.cell (p := ⟨w.heap.size, 11, none⟩) (by exact hz0)).trans c0_11
    have c1_12 := (HS1.out.cell (p := ⟨w.heap.size, 12, none⟩) (by exact hz0)).trans c0_12
    have c1_13 := (HS1.out.cell (p := ⟨w.heap.size, 13, none⟩) (by exact hz0)).trans c0_13
    have c1_14 := (HS1.out.cell (p := ⟨w.heap.size, 14, none⟩) (by exact hz0)).trans c0_14
    have c1_15 := (HS1.out.cell (p := ⟨w.heap.size, 15, none⟩) (by exact hz0)).trans c0_15
    clear c0_0 c0_1 c0_2 c0_3 c0_4 c0_5 c0_6 c0_7 c0_8 c0_9 c0_10 c0_11 c0_12 c0_13 c0_14 c0_15
    have z0 : (w1.alloc (.cells #[.string ⟨#[]⟩, .nilFunc, .nilFunc, .nilFunc] 74)).drew.cell? ⟨w1.heap.size, 0, none⟩ = some (.string ⟨#[]⟩) := by simp [go_sem]
    have z1 : (w1.alloc (.cells #[.string ⟨#[]⟩, .nilFunc, .nilFunc, .nilFunc] 74)).drew.cell? ⟨w1.heap.size, 1, none⟩ = some (.nilFunc) := by simp [go_sem]
    have z2 : (w1.alloc (.cells #[.string ⟨#[]⟩, .nilFunc, .nilFunc, .nilFunc] 74)).drew.cell? ⟨w1.heap.size, 2, none⟩ = some (.nilFunc) := by simp [go_sem]
    have z3 : (w1.alloc (.cells #[.string ⟨#[]⟩, .nilFunc, .nilFunc, .nilFunc] 74)).drew.cell? ⟨w1.heap.size, 3, none⟩ = some (.nilFunc) := by simp [go_sem]
    have zf : ∀ j, (w1.alloc (.cells #[.string ⟨#[]⟩, .nilFunc, .nilFunc, .nilFunc] 74)).drew.frozen? ⟨w1.heap.size, j, none⟩ = false := fun j => by simp [go_sem]
    have hq1 : w1.heap.size < (w1.alloc (.cells #[.string ⟨#[]⟩, .nilFunc, .nilFunc, .nilFunc] 74)).drew.heap.size := by simp
    have hz1 : w.heap.size < (w1.alloc (.cells #[.string ⟨#[]⟩, .nilFunc, .nilFunc, .nilFunc] 74)).drew.heap.size := by simp; omega
    generalize (w1.alloc (.cells #[.string ⟨#[]⟩, .nilFunc, .nilFunc, .nilFunc] 74)).drew = p1 at *
    clear hHeld
    refine hK.out _ _ ?_ (fun hHeld => ?_)
    · ((try dsimp only); go_keep)
    clear hK K
    try simp only [Act.put, List.setIfInBounds_toArray, List.set_cons_zero, List.set_cons_succ]
    refine wpAnyH_ready (rs := [0]) (by kernel_rfl) (by simp) ?_
    refine AllReadyH.cons (o := { dst := some 16, op := Op.call { callee := Callee.value (Operand.func 40), args := #[], argTypes := #[] }, type := 75, pos := "l7_mail.go:40", after := #[], guard := none }) rfl (fun K hK => ?_) AllReadyH.nil
    go_simp
    refine (c40 _).mono ?_
    rintro e p2 ⟨rfl, hb2⟩
    have HS2 : Hid (Below p1.heap.size p1 p2) :=  hb2
    clear hb2
    have c2_0 := (HS2.out.cell (p := ⟨w.heap.size, 0, none⟩) (by exact hz1)).trans c1_0
    have c2_1 := (HS2.out.cell (p := ⟨w.heap.size, 1, none⟩) (by exact hz1)).trans c1_1
    have c2_2 := (HS2.out.cell (p := ⟨w.heap.size, 2, none⟩) (by exact hz1)).trans c1_2
    have c2_3 := (HS2.out.cell (p := ⟨w.heap.size, 3, none⟩) (by exact hz1)).trans c1_3
    have c2_4 := (HS2.out.cell (p := ⟨w.heap.size, 4, none⟩) (by exact hz1)).trans c1_4
    have c2_5 := (HS2.out.cell (p := ⟨w.heap.size, 5, none⟩) (by exact hz1)).trans c1_5
    have c2_6 := (HS2.out.cell (p := ⟨w.heap.size, 6, none⟩) (by exact hz1)).trans c1_6
    have c2_7 := (HS2.out.cell (p := ⟨w.heap.size, 7, none⟩) (by exact hz1)).trans c1_7
    have c2_8 := (HS2.out.cell (p := ⟨w.heap.size, 8, none⟩) (by exact hz1)).trans c1_8
    have c2_9 := (HS2.out.cell (p := ⟨w.heap.size, 9, none⟩) (by exact hz1)).trans c1_9
    have c2_10 := (HS2.out.cell (p := ⟨w.heap.size, 10, none⟩) (by exact hz1)).trans c1_10
    have c2_11 := (HS2.out.cell (p := ⟨w.heap.size, 11, none⟩) (by exact hz1)).trans c1_11
    have c2_12 := (HS2.out.cell (p := ⟨w.heap.size, 12, none⟩) (by exact hz1)).trans c1_12
    have c2_13 := (HS2.out.cell (p := ⟨w.heap.size, 13, none⟩) (by exact hz1)).trans c1_13
    have c2_14 := (HS2.out.cell (p := ⟨w.heap.size, 14, none⟩) (by exact hz1)).trans c1_14
    have c2_15 := (HS2.out.cell (p := ⟨w.heap.size, 15, none⟩) (by exact hz1)).trans c1_15
    clear c1_0 c1_1 c1_2 c1_3 c1_4 c1_5 c1_6 c1_7 c1_8 c1_9 c1_10 c1_11 c1_12 c1_13 c1_14 c1_15
    have hz2 : w.heap.size < p2.heap.size := Nat.lt_of_lt_of_le hz1 HS2.out.size
    have y0 := (HS2.out.cell (p := ⟨w1.heap.size, 0, none⟩) hq1).trans z0
    have y1 := (HS2.out.cell (p := ⟨w1.heap.size, 1, none⟩) hq1).trans z1
    have y2 := (HS2.out.cell (p := ⟨w1.heap.size, 2, none⟩) hq1).trans z2
    have y3 := (HS2.out.cell (p := ⟨w1.heap.size, 3, none⟩) hq1).trans z3
    have yf0 : p2.frozen? ⟨w1.heap.size, 0, none⟩ = false := (HS2.out.frozen (p := ⟨w1.heap.size, 0, none⟩) hq1).trans (zf 0)
    have yf1 : p2.frozen? ⟨w1.heap.size, 1, none⟩ = false := (HS2.out.frozen (p := ⟨w1.heap.size, 1, none⟩) hq1).trans (zf 1)
    have yf2 : p2.frozen? ⟨w1.heap.size, 2, none⟩ = false := (HS2.out.frozen (p := ⟨w1.heap.size, 2, none⟩) hq1).trans (zf 2)
    have yf3 : p2.frozen? ⟨w1.heap.size, 3, none⟩ = false := (HS2.out.frozen (p := ⟨w1.heap.size, 3, none⟩) hq1).trans (zf 3)
    have hq2 := Nat.lt_of_lt_of_le hq1 HS2.out.size
    clear z0 z1 z2 z3 zf
    go_wp2_with fail
    clear hHeld
    refine hK.out _ _ ?_ (fun hHeld => ?_)
    · ((try dsimp only); go_keep)
    clear hK K
    try simp only [Act.put, List.setIfInBounds_toArray, List.set_cons_zero, List.set_cons_succ]
    refine wpAnyH_take (i := 3) (oi := { dst := some 19, op := Op.index 75 (Operand.tmp 16) (Operand.tmp 18), type := 74, pos := "l7_mail.go:40", after := #[{ on := 0, ground := Ground.data }, { on := 2, ground := Ground.data }], guard := none }) (v := ?_) rfl (by kernel_rfl) (by kernel_rfl) (by kernel_rfl) (fun _ _ _ h => h) (Or.inl ⟨by rfl, ?_⟩) (by assumption) ?_
    rotate_left
    · intro wq hSw
      (try dsimp only at hSw)
      go_simp
      try with_reducible rfl
    try simp only [Act.put, List.setIfInBounds_toArray, List.set_cons_zero, List.set_cons_succ]
    refine wpAnyH_ready (rs := [5]) (by kernel_rfl) (by simp) ?_
    refine AllReadyH.cons (o := { dst := none, op := Op.store 74 (Operand.tmp 5) (Operand.tmp 19), type := 0, pos := "l7_mail.go:40", after := #[{ on := 4, ground := Ground.data }, { on := 3, ground := Ground.data }, { on := 0, ground := Ground.chain }, { on := 0, ground := Ground.phase }, { on := 1, ground := Ground.phase }, { on := 2, ground := Ground.phase }, { on := 3, ground := Ground.phase }, { on := 4, ground := Ground.phase }], guard := none }) rfl (fun K hK => ?_) AllReadyH.nil
    go_simp
    have c3_0 : ((((p2.setCell ⟨w1.heap.size, 0, none⟩ (.string ⟨#[116, 117, 114, 110]⟩)).setCell ⟨w1.heap.size, 1, none⟩ (.func (.func 79) #[] #[])).setCell ⟨w1.heap.size, 2, none⟩ (.func (.func 80) #[] #[])).setCell ⟨w1.heap.size, 3, none⟩ (.func (.func 81) #[] #[])).cell? ⟨w.heap.size, 0, none⟩ = some (.int .i64 2) := (World.cell?_setCell_far _ _ _ _ (by show w1.heap.size ≠ w.heap.size; omega)).trans ((World.cell?_setCell_far _ _ _ _ (by show w1.heap.size ≠ w.heap.size; omega)).trans ((World.cell?_setCell_far _ _ _ _ (by show w1.heap.size ≠ w.heap.size; omega)).trans ((World.cell?_setCell_far _ _ _ _ (by show w1.heap.size ≠ w.heap.size; omega)).trans c2_0)))
    have c3_1 : ((((p2.setCell ⟨w1.heap.size, 0, none⟩ (.string ⟨#[116, 117, 114, 110]⟩)).setCell ⟨w1.heap.size, 1, none⟩ (.func (.func 79) #[] #[])).setCell ⟨w1.heap.size, 2, none⟩ (.func (.func 80) #[] #[])).setCell ⟨w1.heap.size, 3, none⟩ (.func (.func 81) #[] #[])).cell? ⟨w.heap.size, 1, none⟩ = some (.int .i64 x.to) := (World.cell?_setCell_far _ _ _ _ (by show w1.heap.size ≠ w.heap.size; omega)).trans ((World.cell?_setCell_far _ _ _ _ (by show w1.heap.size ≠ w.heap.size; omega)).trans ((World.cell?_setCell_far _ _ _ _ (by show w1.heap.size ≠ w.heap.size; omega)).trans ((World.cell?_setCell_far _ _ _ _ (by show w1.heap.size ≠ w.heap.size; omega)).trans c2_1)))
    have c3_2 : ((((p2.setCell ⟨w1.heap.size, 0, none⟩ (.string ⟨#[116, 117, 114, 110]⟩)).setCell ⟨w1.heap.size, 1, none⟩ (.func (.func 79) #[] #[])).setCell ⟨w1.heap.size, 2, none⟩ (.func (.func 80) #[] #[])).setCell ⟨w1.heap.size, 3, none⟩ (.func (.func 81) #[] #[])).cell? ⟨w.heap.size, 2, none⟩ = some (.int .i64 x.fr) := (World.cell?_setCell_far _ _ _ _ (by show w1.heap.size ≠ w.heap.size; omega)).trans ((World.cell?_setCell_far _ _ _ _ (by show w1.heap.size ≠ w.heap.size; omega)).trans ((World.cell?_setCell_far _ _ _ _ (by show w1.heap.size ≠ w.heap.size; omega)).trans ((World.cell?_setCell_far _ _ _ _ (by show w1.heap.size ≠ w.heap.size; omega)).trans c2_2)))
    have c3_3 : ((((p2.setCell ⟨w1.heap.size, 0, none⟩ (.string ⟨#[116, 117, 114, 110]⟩)).setCell ⟨w1.heap.size, 1, none⟩ (.func (.func 79) #[] #[])).setCell ⟨w1.heap.size, 2, none⟩ (.func (.func 80) #[] #[])).setCell ⟨w1.heap.size, 3, none⟩ (.func (.func 81) #[] #[])).cell? ⟨w.heap.size, 3, none⟩ = some (.int .i64 x.ep) := (World.cell?_setCell_far _ _ _ _ (by show w1.heap.size ≠ w.heap.size; omega)).trans ((World.cell?_setCell_far _ _ _ _ (by show w1.heap.size ≠ w.heap.size; omega)).trans ((World.cell?_setCell_far _ _ _ _ (by show w1.heap.size ≠ w.heap.size; omega)).trans ((World.cell?_setCell_far _ _ _ _ (by show w1.heap.size ≠ w.heap.size; omega)).trans c2_3)))
    have c3_4 : ((((p2.setCell ⟨w1.heap.size, 0, none⟩ (.string ⟨#[116, 117, 114, 110]⟩)).setCell ⟨w1.heap.size, 1, none⟩ (.func (.func 79) #[] #[])).setCell ⟨w1.heap.size, 2, none⟩ (.func (.func 80) #[] #[])).setCell ⟨w1.heap.size, 3, none⟩ (.func (.func 81) #[] #[])).cell? ⟨w.heap.size, 4, none⟩ = some (.int .i64 x.ed) := (World.cell?_setCell_far _ _ _ _ (by show w1.heap.size ≠ w.heap.size; omega)).trans ((World.cell?_setCell_far _ _ _ _ (by show w1.heap.size ≠ w.heap.size; omega)).trans ((World.cell?_setCell_far _ _ _ _ (by show w1.heap.size ≠ w.heap.size; omega)).trans ((World.cell?_setCell_far _ _ _ _ (by show w1.heap.size ≠ w.heap.size; omega)).trans c2_4)))
    have c3_5 : ((((p2.setCell ⟨w1.heap.size, 0, none⟩ (.string ⟨#[116, 117, 114, 110]⟩)).setCell ⟨w1.heap.size, 1, none⟩ (.func (.func 79) #[] #[])).setCell ⟨w1.heap.size, 2, none⟩ (.func (.func 80) #[] #[])).setCell ⟨w1.heap.size, 3, none⟩ (.func (.func 81) #[] #[])).cell? ⟨w.heap.size, 5, none⟩ = some (.string x.km.nm) := (World.cell?_setCell_far _ _ _ _ (by show w1.heap.size ≠ w.heap.size; omega)).trans ((World.cell?_setCell_far _ _ _ _ (by show w1.heap.size ≠ w.heap.size; omega)).trans ((World.cell?_setCell_far _ _ _ _ (by show w1.heap.size ≠ w.heap.size; omega)).trans ((World.cell?_setCell_far _ _ _ _ (by show w1.heap.size ≠ w.heap.size; omega)).trans c2_5)))
    have c3_6 : ((((p2.setCell ⟨w1.heap.size, 0, none⟩ (.string ⟨#[116, 117, 114, 110]⟩)).setCell ⟨w1.heap.size, 1, none⟩ (.func (.func 79) #[] #[])).setCell ⟨w1.heap.size, 2, none⟩ (.func (.func 80) #[] #[])).setCell ⟨w1.heap.size, 3, none⟩ (.func (.func 81) #[] #[])).cell? ⟨w.heap.size, 6, none⟩ = some (.string x.km.tl) := (World.cell?_setCell_far _ _ _ _ (by show w1.heap.size ≠ w.heap.size; omega)).trans ((World.cell?_setCell_far _ _ _ _ (by show w1.heap.size ≠ w.heap.size; omega)).trans ((World.cell?_setCell_far _ _ _ _ (by show w1.heap.size ≠ w.heap.size; omega)).trans ((World.cell?_setCell_far _ _ _ _ (by show w1.heap.size ≠ w.heap.size; omega)).trans c2_6)))
    have c3_7 : ((((p2.setCell ⟨w1.heap.size, 0, none⟩ (.string ⟨#[116, 117, 114, 110]⟩)).setCell ⟨w1.heap.size, 1, none⟩ (.func (.func 79) #[] #[])).setCell ⟨w1.heap.size, 2, none⟩ (.func (.func 80) #[] #[])).setCell ⟨w1.heap.size, 3, none⟩ (.func (.func 81) #[] #[])).cell? ⟨w.heap.size, 7, none⟩ = some (.string x.km.ar) := (World.cell?_setCell_far _ _ _ _ (by show w1.heap.size ≠ w.heap.size; omega)).trans ((World.cell?_setCell_far _ _ _ _ (by show w1.heap.size ≠ w.heap.size; omega)).trans ((World.cell?_setCell_far _ _ _ _ (by show w1.heap.size ≠ w.heap.size; omega)).trans ((World.cell?_setCell_far _ _ _ _ (by show w1.heap.size ≠ w.heap.size; omega)).trans c2_7)))
    have c3_8 : ((((p2.setCell ⟨w1.heap.size, 0, none⟩ (.string ⟨#[116, 117, 114, 110]⟩)).setCell ⟨w1.heap.size, 1, none⟩ (.func (.func 79) #[] #[])).setCell ⟨w1.heap.size, 2, none⟩ (.func (.func 80) #[] #[])).setCell ⟨w1.heap.size, 3, none⟩ (.func (.func 81) #[] #[])).cell? ⟨w.heap.size, 8, none⟩ = some (.slice ai x.ls.length ci) := (World.cell?_setCell_far _ _ _ _ (by show w1.heap.size ≠ w.heap.size; omega)).trans ((World.cell?_setCell_far _ _ _ _ (by show w1.heap.size ≠ w.heap.size; omega)).trans ((World.cell?_setCell_far _ _ _ _ (by show w1.heap.size ≠ w.heap.size; omega)).trans ((World.cell?_setCell_far _ _ _ _ (by show w1.heap.size ≠ w.heap.size; omega)).trans c2_8)))
    have c3_9 : ((((p2.setCell ⟨w1.heap.size, 0, none⟩ (.string ⟨#[116, 117, 114, 110]⟩)).setCell ⟨w1.heap.size, 1, none⟩ (.func (.func 79) #[] #[])).setCell ⟨w1.heap.size, 2, none⟩ (.func (.func 80) #[] #[])).setCell ⟨w1.heap.size, 3, none⟩ (.func (.func 81) #[] #[])).cell? ⟨w.heap.size, 9, none⟩ = some (.int .i64 x.ct) := (World.cell?_setCell_far _ _ _ _ (by show w1.heap.size ≠ w.heap.size; omega)).trans ((World.cell?_setCell_far _ _ _ _ (by show w1.heap.size ≠ w.heap.size; omega)).trans ((World.cell?_setCell_far _ _ _ _ (by show w1.heap.size ≠ w.heap.size; omega)).trans ((World.cell?_setCell_far _ _ _ _ (by show w1.heap.size ≠ w.heap.size; omega)).trans c2_9)))
    have c3_10 : ((((p2.setCell ⟨w1.heap.size, 0, none⟩ (.string ⟨#[116, 117, 114, 110]⟩)).setCell ⟨w1.heap.size, 1, none⟩ (.func (.func 79) #[] #[])).setCell ⟨w1.heap.size, 2, none⟩ (.func (.func 80) #[] #[])).setCell ⟨w1.heap.size, 3, none⟩ (.func (.func 81) #[] #[])).cell? ⟨w.heap.size, 10, none⟩ = some (.bool x.tn.over) := (World.cell?_setCell_far _ _ _ _ (by show w1.heap.size ≠ w.heap.size; omega)).trans ((World.cell?_setCell_far _ _ _ _ (by show w1.heap.size ≠ w.heap.size; omega)).trans ((World.cell?_setCell_far _ _ _ _ (by show w1.heap.size ≠ w.heap.size; omega)).trans ((World.cell?_setCell_far _ _ _ _ (by show w1.heap.size ≠ w.heap.size; omega)).trans c2_10)))
    have c3_11 : ((((p2.setCell ⟨w1.heap.size, 0, none⟩ (.string ⟨#[116, 117, 114, 110]⟩)).setCell ⟨w1.heap.size, 1, none⟩ (.func (.func 79) #[] #[])).setCell ⟨w1.heap.size, 2, none⟩ (.func (.func 80) #[] #[])).setCell ⟨w1.heap.size, 3, none⟩ (.func (.func 81) #[] #[])).cell? ⟨w.heap.size, 11, none⟩ = some (.int .i64 x.tn.cd) := (World.cell?_setCell_far _ _ _ _ (by show w1.heap.size ≠ w.heap.size; omega)).trans ((World.cell?_setCell_far _ _ _ _ (by show w1.heap.size ≠ w.heap.size; omega)).trans ((World.cell?_setCell_far _ _ _ _ (by show w1.heap.size ≠ w.heap.size; omega)).trans ((World.cell?_setCell_far _ _ _ _ (by show w1.heap.size ≠ w.heap.size; omega)).trans c2_11)))
    have c3_12 : ((((p2.setCell ⟨w1.heap.size, 0, none⟩ (.string ⟨#[116, 117, 114, 110]⟩)).setCell ⟨w1.heap.size, 1, none⟩ (.func (.func 79) #[] #[])).setCell ⟨w1.heap.size, 2, none⟩ (.func (.func 80) #[] #[])).setCell ⟨w1.heap.size, 3, none⟩ (.func (.func 81) #[] #[])).cell? ⟨w.heap.size, 12, none⟩ = some (.string x.tn.tx) := (World.cell?_setCell_far _ _ _ _ (by show w1.heap.size ≠ w.heap.size; omega)).trans ((World.cell?_setCell_far _ _ _ _ (by show w1.heap.size ≠ w.heap.size; omega)).trans ((World.cell?_setCell_far _ _ _ _ (by show w1.heap.size ≠ w.heap.size; omega)).trans ((World.cell?_setCell_far _ _ _ _ (by show w1.heap.size ≠ w.heap.size; omega)).trans c2_12)))
    have c3_13 : ((((p2.setCell ⟨w1.heap.size, 0, none⟩ (.string ⟨#[116, 117, 114, 110]⟩)).setCell ⟨w1.heap.size, 1, none⟩ (.func (.func 79) #[] #[])).setCell ⟨w1.heap.size, 2, none⟩ (.func (.func 80) #[] #[])).setCell ⟨w1.heap.size, 3, none⟩ (.func (.func 81) #[] #[])).cell? ⟨w.heap.size, 13, none⟩ = some (.bool x.tn.has) := (World.cell?_setCell_far _ _ _ _ (by show w1.heap.size ≠ w.heap.size; omega)).trans ((World.cell?_setCell_far _ _ _ _ (by show w1.heap.size ≠ w.heap.size; omega)).trans ((World.cell?_setCell_far _ _ _ _ (by show w1.heap.size ≠ w.heap.size; omega)).trans ((World.cell?_setCell_far _ _ _ _ (by show w1.heap.size ≠ w.heap.size; omega)).trans c2_13)))
    have c3_14 : ((((p2.setCell ⟨w1.heap.size, 0, none⟩ (.string ⟨#[116, 117, 114, 110]⟩)).setCell ⟨w1.heap.size, 1, none⟩ (.func (.func 79) #[] #[])).setCell ⟨w1.heap.size, 2, none⟩ (.func (.func 80) #[] #[])).setCell ⟨w1.heap.size, 3, none⟩ (.func (.func 81) #[] #[])).cell? ⟨w.heap.size, 14, none⟩ = some (.string x.tn.nm) := (World.cell?_setCell_far _ _ _ _ (by show w1.heap.size ≠ w.heap.size; omega)).trans ((World.cell?_setCell_far _ _ _ _ (by show w1.heap.size ≠ w.heap.size; omega)).trans ((World.cell?_setCell_far _ _ _ _ (by show w1.heap.size ≠ w.heap.size; omega)).trans ((World.cell?_setCell_far _ _ _ _ (by show w1.heap.size ≠ w.heap.size; omega)).trans c2_14)))
    have c3_15 : ((((p2.setCell ⟨w1.heap.size, 0, none⟩ (.string ⟨#[116, 117, 114, 110]⟩)).setCell ⟨w1.heap.size, 1, none⟩ (.func (.func 79) #[] #[])).setCell ⟨w1.heap.size, 2, none⟩ (.func (.func 80) #[] #[])).setCell ⟨w1.heap.size, 3, none⟩ (.func (.func 81) #[] #[])).cell? ⟨w.heap.size, 15, none⟩ = some (.int .i64 x.tn.st) := (World.cell?_setCell_far _ _ _ _ (by show w1.heap.size ≠ w.heap.size; omega)).trans ((World.cell?_setCell_far _ _ _ _ (by show w1.heap.size ≠ w.heap.size; omega)).trans ((World.cell?_setCell_far _ _ _ _ (by show w1.heap.size ≠ w.heap.size; omega)).trans ((World.cell?_setCell_far _ _ _ _ (by show w1.heap.size ≠ w.heap.size; omega)).trans c2_15)))
    have q0 : ((((p2.setCell ⟨w1.heap.size, 0, none⟩ (.string ⟨#[116, 117, 114, 110]⟩)).setCell ⟨w1.heap.size, 1, none⟩ (.func (.func 79) #[] #[])).setCell ⟨w1.heap.size, 2, none⟩ (.func (.func 80) #[] #[])).setCell ⟨w1.heap.size, 3, none⟩ (.func (.func 81) #[] #[])).cell? ⟨w1.heap.size, 0, none⟩ = some (.string ⟨#[116, 117, 114, 110]⟩) := by rw [World.cell?_setCell_other _ _ _ _ (adr_ne (by omega)), World.cell?_setCell_other _ _ _ _ (adr_ne (by omega)), World.cell?_setCell_other _ _ _ _ (adr_ne (by omega))]; exact World.cell?_setCell_same _ _ _ (by exact y0)
    have q1 : ((((p2.setCell ⟨w1.heap.size, 0, none⟩ (.string ⟨#[116, 117, 114, 110]⟩)).setCell ⟨w1.heap.size, 1, none⟩ (.func (.func 79) #[] #[])).setCell ⟨w1.heap.size, 2, none⟩ (.func (.func 80) #[] #[])).setCell ⟨w1.heap.size, 3, none⟩ (.func (.func 81) #[] #[])).cell? ⟨w1.heap.size, 1, none⟩ = some (.func (.func 79) #[] #[]) := by rw [World.cell?_setCell_other _ _ _ _ (adr_ne (by omega)), World.cell?_setCell_other _ _ _ _ (adr_ne (by omega))]; exact World.cell?_setCell_same _ _ _ (by rw [World.cell?_setCell_other _ _ _ _ (adr_ne (by omega))]; exact y1)
    have q2 : ((((p2.setCell ⟨w1.heap.size, 0, none⟩ (.string ⟨#[116, 117, 114, 110]⟩)).setCell ⟨w1.heap.size, 1, none⟩ (.func (.func 79) #[] #[])).setCell ⟨w1.heap.size, 2, none⟩ (.func (.func 80) #[] #[])).setCell ⟨w1.heap.size, 3, none⟩ (.func (.func 81) #[] #[])).cell? ⟨w1.heap.size, 2, none⟩ = some (.func (.func 80) #[] #[]) := by rw [World.cell?_setCell_other _ _ _ _ (adr_ne (by omega))]; exact World.cell?_setCell_same _ _ _ (by rw [World.cell?_setCell_other _ _ _ _ (adr_ne (by omega)), World.cell?_setCell_other _ _ _ _ (adr_ne (by omega))]; exact y2)
    have q3 : ((((p2.setCell ⟨w1.heap.size, 0, none⟩ (.string ⟨#[116, 117, 114, 110]⟩)).setCell ⟨w1.heap.size, 1, none⟩ (.func (.func 79) #[] #[])).setCell ⟨w1.heap.size, 2, none⟩ (.func (.func 80) #[] #[])).setCell ⟨w1.heap.size, 3, none⟩ (.func (.func 81) #[] #[])).cell? ⟨w1.heap.size, 3, none⟩ = some (.func (.func 81) #[] #[]) := by exact World.cell?_setCell_same _ _ _ (by rw [World.cell?_setCell_other _ _ _ _ (adr_ne (by omega)), World.cell?_setCell_other _ _ _ _ (adr_ne (by omega)), World.cell?_setCell_other _ _ _ _ (adr_ne (by omega))]; exact y3)
    have HV : Hid (Below w1.heap.size w1 ((((p2.setCell ⟨w1.heap.size, 0, none⟩ (.string ⟨#[116, 117, 114, 110]⟩)).setCell ⟨w1.heap.size, 1, none⟩ (.func (.func 79) #[] #[])).setCell ⟨w1.heap.size, 2, none⟩ (.func (.func 80) #[] #[])).setCell ⟨w1.heap.size, 3, none⟩ (.func (.func 81) #[] #[]))) := ((((HS1.out.trans (HS2.out.mono HS1.out.size)).setCell (by simp) _).setCell (by simp) _).setCell (by simp) _).setCell (by simp) _
    have hq : w1.heap.size < ((((p2.setCell ⟨w1.heap.size, 0, none⟩ (.string ⟨#[116, 117, 114, 110]⟩)).setCell ⟨w1.heap.size, 1, none⟩ (.func (.func 79) #[] #[])).setCell ⟨w1.heap.size, 2, none⟩ (.func (.func 80) #[] #[])).setCell ⟨w1.heap.size, 3, none⟩ (.func (.func 81) #[] #[])).heap.size := by simp; omega
    have hz3 : w.heap.size < ((((p2.setCell ⟨w1.heap.size, 0, none⟩ (.string ⟨#[116, 117, 114, 110]⟩)).setCell ⟨w1.heap.size, 1, none⟩ (.func (.func 79) #[] #[])).setCell ⟨w1.heap.size, 2, none⟩ (.func (.func 80) #[] #[])).setCell ⟨w1.heap.size, 3, none⟩ (.func (.func 81) #[] #[])).heap.size := by simp; omega
    clear HS1 HS2 y0 y1 y2 y3 yf0 yf1 yf2 yf3 c2_0 c2_1 c2_2 c2_3 c2_4 c2_5 c2_6 c2_7 c2_8 c2_9 c2_10 c2_11 c2_12 c2_13 c2_14 c2_15
    clear hHeld
    refine hK.out _ _ ?_ (fun hHeld => ?_)
    · ((try dsimp only); go_keep)
    clear hK K
    try simp only [Act.put, List.setIfInBounds_toArray, List.set_cons_zero, List.set_cons_succ]
    generalize ((((p2.setCell ⟨w1.heap.size, 0, none⟩ (.string ⟨#[116, 117, 114, 110]⟩)).setCell ⟨w1.heap.size, 1, none⟩ (.func (.func 79) #[] #[])).setCell ⟨w1.heap.size, 2, none⟩ (.func (.func 80) #[] #[])).setCell ⟨w1.heap.size, 3, none⟩ (.func (.func 81) #[] #[])) = p3 at *
    obtain ⟨bk, hbk⟩ : ∃ bk, bk = w1.heap.size := ⟨_, rfl⟩
    rw [← hbk] at q0 q1 q2 q3 hq ⊢
    clear hbk
    refine wpAnyH_done (by kernel_rfl) ?_ _
    clear hHeld
    have HPV : Hid (Pow p3) := pow_below HP.out (hBw1.trans (HV.out.mono hBw1.size))
    have k1 : ¬ 9223372036854775807 < 4 + 1 + (ofL (turnW x)).size := by omega
    have k2 : ¬ 9223372036854775807 < 5 + (ofL (turnW x)).size := by omega
    go_wp2_with fail
    refine wp_region_held_drew (S := (fun u => u.cell? ⟨w.heap.size, 0, none⟩ = some (.int .i64 2) ∧ u.cell? ⟨w.heap.size, 1, none⟩ = some (.int .i64 x.to) ∧ u.cell? ⟨w.heap.size, 2, none⟩ = some (.int .i64 x.fr) ∧ u.cell? ⟨w.heap.size, 3, none⟩ = some (.int .i64 x.ep) ∧ u.cell? ⟨w.heap.size, 4, none⟩ = some (.int .i64 x.ed) ∧ u.cell? ⟨w.heap.size, 5, none⟩ = some (.string x.km.nm) ∧ u.cell? ⟨w.heap.size, 6, none⟩ = some (.string x.km.tl) ∧ u.cell? ⟨w.heap.size, 7, none⟩ = some (.string x.km.ar) ∧ u.cell? ⟨w.heap.size, 8, none⟩ = some (.slice ai x.ls.length ci) ∧ u.cell? ⟨w.heap.size, 9, none⟩ = some (.int .i64 x.ct) ∧ u.cell? ⟨w.heap.size, 10, none⟩ = some (.bool x.tn.over) ∧ u.cell? ⟨w.heap.size, 11, none⟩ = some (.int .i64 x.tn.cd) ∧ u.cell? ⟨w.heap.size, 12, none⟩ = some (.string x.tn.tx) ∧ u.cell? ⟨w.heap.size, 13, none⟩ = some (.bool x.tn.has) ∧ u.cell? ⟨w.heap.size, 14, none⟩ = some (.string x.tn.nm) ∧ u.cell? ⟨w.heap.size, 15, none⟩ = some (.int .i64 x.tn.st) ∧ u.cell? ⟨bk, 0, none⟩ = some (.string ⟨#[116, 117, 114, 110]⟩) ∧ u.cell? ⟨bk, 1, none⟩ = some (.func (.func 79) #[] #[]) ∧ u.cell? ⟨bk, 2, none⟩ = some (.func (.func 80) #[] #[]) ∧ u.cell? ⟨bk, 3, none⟩ = some (.func (.func 81) #[] #[]))) (by kernel_rfl) ?_ (fun hHeld => ?_)
    · ((try dsimp only); go_keep)
    refine wpAnyH_take (i := 0) (oi := { dst := some 20, op := Op.fieldAddr 74 (Operand.tmp 5) 0, type := 0, pos := "l7_mail.go:41", after := #[], guard := none }) (v := ?_) rfl (by kernel_rfl) (by kernel_rfl) (by kernel_rfl) (fun _ _ _ h => h) (Or.inl ⟨by rfl, ?_⟩) (by assumption) ?_
    rotate_left
    · intro wq hSw
      (try dsimp only at hSw)
      go_simp
      try with_reducible rfl
    try simp only [Act.put, List.setIfInBounds_toArray, List.set_cons_zero, List.set_cons_succ]
    refine wpAnyH_take (i := 1) (oi := { dst := some 21, op := Op.load 9 (Operand.tmp 20), type := 9, pos := "l7_mail.go:41", after := #[{ on := 0, ground := Ground.data }], guard := none }) (v := ?_) rfl (by kernel_rfl) (by kernel_rfl) (by kernel_rfl) (fun _ _ _ h => h) (Or.inl ⟨by rfl, ?_⟩) (by assumption) ?_
    rotate_left
    · intro wq hSw
      (try dsimp only at hSw)
      go_simp
      try with_reducible rfl
    try simp only [Act.put, List.setIfInBounds_toArray, List.set_cons_zero, List.set_cons_succ]
    refine wpAnyH_take (i := 2) (oi := { dst := some 22, op := Op.binOp BinOp.add 9 (Operand.tmp 21) (Operand.const (Value.string { data := #[32] })) 9, type := 9, pos := "l7_mail.go:41", after := #[{ on := 1, ground := Ground.data }], guard := none }) (v := ?_) rfl (by kernel_rfl) (by kernel_rfl) (by kernel_rfl) (fun _ _ _ h => h) (Or.inl ⟨by rfl, ?_⟩) (by assumption) ?_
    rotate_left
    · intro wq hSw
      (try dsimp only at hSw)
      go_simp
      try with_reducible rfl
    try simp only [Act.put, List.setIfInBounds_toArray, List.set_cons_zero, List.set_cons_succ]
    refine wpAnyH_take (i := 3) (oi := { dst := some 23, op := Op.fieldAddr 74 (Operand.tmp 5) 2, type := 0, pos := "l7_mail.go:41", after := #[], guard := none }) (v := ?_) rfl (by kernel_rfl) (by kernel_rfl) (by kernel_rfl) (fun _ _ _ h => h) (Or.inl ⟨by rfl, ?_⟩) (by assumption) ?_
    rotate_left
    · intro wq hSw
      (try dsimp only at hSw)
      go_simp
      try with_reducible rfl
    try simp only [Act.put, List.setIfInBounds_toArray, List.set_cons_zero, List.set_cons_succ]
    refine wpAnyH_take (i := 4) (oi := { dst := some 24, op := Op.load 61 (Operand.tmp 23), type := 61, pos := "l7_mail.go:41", after := #[{ on := 3, ground := Ground.data }], guard := none }) (v := ?_) rfl (by kernel_rfl) (by kernel_rfl) (by kernel_rfl) (fun _ _ _ h => h) (Or.inl ⟨by rfl, ?_⟩) (by assumption) ?_
    rotate_left
    · intro wq hSw
      (try dsimp only at hSw)
      go_simp
      try with_reducible rfl
    try simp only [Act.put, List.setIfInBounds_toArray, List.set_cons_zero, List.set_cons_succ]
    refine wpAnyH_take (i := 5) (oi := { dst := some 25, op := Op.load 41 (Operand.tmp 2), type := 41, pos := "l7_mail.go:41", after := #[], guard := none }) (v := ?_) rfl (by kernel_rfl) (by kernel_rfl) (by kernel_rfl) (fun _ _ _ h => h) (Or.inl ⟨by rfl, ?_⟩) (by assumption) ?_
    rotate_left
    · intro wq hSw
      (try dsimp only at hSw)
      go_simp
      try with_reducible rfl
    try simp only [Act.put, List.setIfInBounds_toArray, List.set_cons_zero, List.set_cons_succ]
    refine wpAnyH_ready (rs := [6]) (by kernel_rfl) (by simp) ?_
    refine AllReadyH.cons (o := { dst := some 26, op := Op.call { callee := Callee.value (Operand.tmp 24), args := #[Operand.tmp 25], argTypes := #[41] }, type := 9, pos := "l7_mail.go:41", after := #[{ on := 4, ground := Ground.data }, { on := 5, ground := Ground.data }], guard := none }) rfl (fun K hK => ?_) AllReadyH.nil
    go_simp
    refine (c80 x 2 ai ci _ (pow_below HPV.out ((Below.refl _ _).drew)) r1 r2 r3 r4 r5 r6 s1 s2 s3).mono ?_
    rintro e p4 ⟨rfl, hb4⟩
    have HS4 : Hid (Below p3.heap.size p3 p4) := ((Below.refl _ _).drew).trans hb4
    clear hb4
    have c4_0 := (HS4.out.cell (p := ⟨w.heap.size, 0, none⟩) (by exact hz3)).trans c3_0
    have c4_1 := (HS4.out.cell (p := ⟨w.heap.size, 1, none⟩) (by exact hz3)).trans c3_1
    have c4_2 := (HS4.out.cell (p := ⟨w.heap.size, 2, none⟩) (by exact hz3)).trans c3_2
    have c4_3 := (HS4.out.cell (p := ⟨w.heap.size, 3, none⟩) (by exact hz3)).trans c3_3
    have c4_4 := (HS4.out.cell (p := ⟨w.heap.size, 4, none⟩) (by exact hz3)).trans c3_4
    have c4_5 := (HS4.out.cell (p := ⟨w.heap.size, 5, none⟩) (by exact hz3)).trans c3_5
    have c4_6 := (HS4.out.cell (p := ⟨w.heap.size, 6, none⟩) (by exact hz3)).trans c3_6
    have c4_7 := (HS4.out.cell (p := ⟨w.heap.size, 7, none⟩) (by exact hz3)).trans c3_7
    have c4_8 := (HS4.out.cell (p := ⟨w.heap.size, 8, none⟩) (by exact hz3)).trans c3_8
    have c4_9 := (HS4.out.cell (p := ⟨w.heap.size, 9, none⟩) (by exact hz3)).trans c3_9
    have c4_10 := (HS4.out.cell (p := ⟨w.heap.size, 10, none⟩) (by exact hz3)).trans c3_10
    have c4_11 := (HS4.out.cell (p := ⟨w.heap.size, 11, none⟩) (by exact hz3)).trans c3_11
    have c4_12 := (HS4.out.cell (p := ⟨w.heap.size, 12, none⟩) (by exact hz3)).trans c3_12
    have c4_13 := (HS4.out.cell (p := ⟨w.heap.size, 13, none⟩) (by exact hz3)).trans c3_13
    have c4_14 := (HS4.out.cell (p := ⟨w.heap.size, 14, none⟩) (by exact hz3)).trans c3_14
    have c4_15 := (HS4.out.cell (p := ⟨w.heap.size, 15, none⟩) (by exact hz3)).trans c3_15
    have u0 := (HS4.out.cell (p := ⟨bk, 0, none⟩) (by exact hq)).trans q0
    have u1 := (HS4.out.cell (p := ⟨bk, 1, none⟩) (by exact hq)).trans q1
    have u2 := (HS4.out.cell (p := ⟨bk, 2, none⟩) (by exact hq)).trans q2
    have u3 := (HS4.out.cell (p := ⟨bk, 3, none⟩) (by exact hq)).trans q3

    go_wp2_with fail
    clear hHeld
    refine hK.out _ _ ?_ (fun hHeld => ?_)
    · ((try dsimp only); go_keep)
    clear hK K
    try simp only [Act.put, List.setIfInBounds_toArray, List.set_cons_zero, List.set_cons_succ]
    refine wpAnyH_take (i := 7) (oi := { dst := some 27, op := Op.binOp BinOp.add 9 (Operand.tmp 22) (Operand.tmp 26) 9, type := 9, pos := "l7_mail.go:41", after := #[{ on := 2, ground := Ground.data }, { on := 6, ground := Ground.data }], guard := none }) (v := ?_) rfl (by kernel_rfl) (by kernel_rfl) (by kernel_rfl) (fun _ _ _ h => h) (Or.inl ⟨by rfl, ?_⟩) (by assumption) ?_
    rotate_left
    · intro wq hSw
      (try dsimp only at hSw)
      go_simp
      try with_reducible rfl
    try simp only [Act.put, List.setIfInBounds_toArray, List.set_cons_zero, List.set_cons_succ]
    refine wpAnyH_take (i := 8) (oi := { dst := some 6, op := Op.assign (Operand.tmp 27), type := 9, pos := "l7_mail.go:41", after := #[{ on := 7, ground := Ground.data }, { on := 6, ground := Ground.chain }, { on := 0, ground := Ground.phase }, { on := 1, ground := Ground.phase }, { on := 2, ground := Ground.phase }, { on := 3, ground := Ground.phase }, { on := 4, ground := Ground.phase }, { on := 5, ground := Ground.phase }, { on := 6, ground := Ground.phase }, { on := 7, ground := Ground.phase }], guard := none }) (v := ?_) rfl (by kernel_rfl) (by kernel_rfl) (by kernel_rfl) (fun _ _ _ h => h) (Or.inl ⟨by rfl, ?_⟩) (by assumption) ?_
    rotate_left
    · intro wq hSw
      (try dsimp only at hSw)
      go_simp
      try with_reducible rfl
    try simp only [Act.put, List.setIfInBounds_toArray, List.set_cons_zero, List.set_cons_succ]
    refine wpAnyH_done (by kernel_rfl) ?_ _
    clear hHeld
    have hB4 : Below w.heap.size w p4 := (hBw1.trans (HV.out.mono hBw1.size)).trans (HS4.out.mono (hBw1.trans (HV.out.mono hBw1.size)).size)
    rw [HE.out]
    go_wp2_with fail
    refine (c41 (ofL (turnL x)) key _ (by omega) (by omega)).mono ?_
    rintro e p5 ⟨rfl, hb5⟩
    have hB5 : Below w.heap.size w p5 := hB4.trans (hb5.mono hB4.size)
    clear hb5
    have k3 : ¬ 9223372036854775807 < (tagS (ofL (turnL x)) key).size + (ofL (turnL x)).size := by omega
    go_wp2
    go_ret
    exact ⟨rfl, hB5⟩
end Go.Proofs.YtdcgjdgpiogdaaaGreatDoor
namespace Go.Proofs.YtdcgjdgpiogdaaaGreatDoor
open Go.RowKit
set_option maxHeartbeats 16000000 in
set_option maxRecDepth 100000 in
theorem c15_1 (x : G16) (key : ByteArray) (ai : Option Addr) (ci : Nat) (w : World) (hp : Pow w) (hs : x.le 1048576) (hk : key.size ≤ 30) (hok : OfferOk x) (hat : LksAt w ai x.ls) :
    Calls Tryz.prog 15 #[.agg #[.int .i64 1, .int .i64 x.to, .int .i64 x.fr, .int .i64 x.ep, .int .i64 x.ed, .string x.km.nm, .string x.km.tl, .string x.km.ar, .slice ai x.ls.length ci, .int .i64 x.ct, .bool x.tn.over, .int .i64 x.tn.cd, .string x.tn.tx, .bool x.tn.has, .string x.tn.nm, .int .i64 x.tn.st], .string key] w fun e w' => e = .returned (.string (tagS (ofL (offerL x)) key ++ ofL (offerL x))) ∧ Below w.heap.size w w' := by
  have hB0 : ∀ o, Below w.heap.size w (w.alloc o) := fun o => (Below.refl _ _).alloc (Nat.le_refl _) _
  have HS : Hid (x.le 1048576) := hs
  have HOK : Hid (OfferOk x) := hok
  have HP : Hid (Pow w) := hp
  have hd : decide (key.size ≤ 30) = true := by simpa using hk
  have hIx := ix_way
  have hsf : ∀ (w : World) (a : Addr) (f : Fn) (x y : Array Value) (m : Mode), (store a (.func f x y) m).run Tryz.prog w = stored Tryz.prog w a (.func f x y) m := fun w a f x y m => run_store _ _ _ _ _ rfl
  have r1 : 0 ≤ x.to ∧ x.to ≤ 1000 := by have := hok.2.1; omega
  have r2 : 0 ≤ x.ep ∧ x.ep ≤ 1000 := by have := mom_le hok.2.2.1; omega
  have r3 : 0 ≤ x.ed ∧ x.ed ≤ 1000 := by have := mom_le hok.2.2.1; omega
  have hom := hok.2.2.2.1
  have hol := hok.2.2.2.2
  have hss := hs.2.1.2
  have HAT : Hid (LksAt w ai x.ls) := hat
  have zl : (ofL (looksL x.ls)).size ≤ 10000000 := by rw [ofL_size]; have := looks_small hol; omega
  have zb : (ofL (bodyL x.km)).size ≤ 10000000 := by
    have a := okM_len hom
    have q := quote_len2 x.km.ar.data.toList
    rw [ofL_size]
    unfold bodyL
    simp only [List.length_append, List.length_cons, List.length_nil]
    omega
  have HE : Hid ((⟨#[111, 102, 102, 101, 114]⟩ : ByteArray) ++ ⟨#[32]⟩ ++ ofL (offerW x) = ofL (offerL x)) := by
    show ofL [111, 102, 102, 101, 114] ++ ofL [32] ++ ofL (offerW x) = _
    rw [cat_ofL, cat_ofL]
    exact congrArg ofL (offerW_offerL x)
  have zW : (ofL (offerL x)).size ≤ 15000 := by rw [ofL_size]; exact offer_len hok
  have zw : (ofL (offerW x)).size ≤ 15000 := by
    have h := congrArg ByteArray.size HE.out
    simp only [ByteArray.size_append] at h
    omega
  have z8 : (tagS (ofL (offerL x)) key).size = 8 := tag_size _ key hk
  clear hs hok hp
  go_enter Tryz.func15, Tryz.ntmps15
  go_wp2_with fail
  refine (c38 x ai ci _ HS.out (lks_below hat (hB0 _))).mono ?_
  rintro e w1 ⟨⟨r, rfl, hr⟩, hb1⟩
  have hrt : r = true := hr.2 HOK.out
  subst hrt
  have HX1 : Hid (Below (w.heap.size + 1) (w.alloc (.cells #[.int .i64 1, .int .i64 x.to, .int .i64 x.fr, .int .i64 x.ep, .int .i64 x.ed, .string x.km.nm, .string x.km.tl, .string x.km.ar, .slice ai x.ls.length ci, .int .i64 x.ct, .bool x.tn.over, .int .i64 x.tn.cd, .string x.tn.tx, .bool x.tn.has, .string x.tn.nm, .int .i64 x.tn.st] 41)) w1) := by have h := hb1; simp at h; exact h
  have hz0 : w.heap.size < w1.heap.size := by have h := HX1.out.size; simp at h; omega
  have hBw1 : Below w.heap.size w w1 := (hB0 _).trans (HX1.out.mono (by omega))
  have c0_0 : w1.cell? ⟨w.heap.size, 0, none⟩ = some (.int .i64 1) := (HX1.out.cell (p := ⟨w.heap.size, 0, none⟩) (by show w.heap.size < w.heap.size + 1; omega)).trans (by simp [go_sem])
  have c0_1 : w1.cell? ⟨w.heap.size, 1, none⟩ = some (.int .i64 x.to) := (HX1.out.cell (p := ⟨w.heap.size, 1, none⟩) (by show w.heap.size < w.heap.size + 1; omega)).trans (by simp [go_sem])
  have c0_2 : w1.cell? ⟨w.heap.size, 2, none⟩ = some (.int .i64 x.fr) := (HX1.out.cell (p := ⟨w.heap.size, 2, none⟩) (by show w.heap.size < w.heap.size + 1; omega)).trans (by simp [go_sem])
  have c0_3 : w1.cell? ⟨w.heap.size, 3, none⟩ = some (.int .i64 x.ep) := (HX1.out.cell (p := ⟨w.heap.size, 3, none⟩) (by show w.heap.size < w.heap.size + 1; omega)).trans (by simp [go_sem])
  have c0_4 : w1.cell? ⟨w.heap.size, 4, none⟩ = some (.int .i64 x.ed) := (HX1.out.cell (p := ⟨w.heap.size, 4, none⟩) (by show w.heap.size < w.heap.size + 1; omega)).trans (by simp [go_sem])
  have c0_5 : w1.cell? ⟨w.heap.size, 5, none⟩ = some (.string x.km.nm) := (HX1.out.cell (p := ⟨w.heap.size, 5, none⟩) (by show w.heap.size < w.heap.size + 1; omega)).trans (by simp [go_sem])
  have c0_6 : w1.cell? ⟨w.heap.size, 6, none⟩ = some (.string x.km.tl) := (HX1.out.cell (p := ⟨w.heap.size, 6, none⟩) (by show w.heap.size < w.heap.size + 1; omega)).trans (by simp [go_sem])
  have c0_7 : w1.cell? ⟨w.heap.size, 7, none⟩ = some (.string x.km.ar) := (HX1.out.cell (p := ⟨w.heap.size, 7, none⟩) (by show w.heap.size < w.heap.size + 1; omega)).trans (by simp [go_sem])
  have c0_8 : w1.cell? ⟨w.heap.size, 8, none⟩ = some (.slice ai x.ls.length ci) := (HX1.out.cell (p := ⟨w.heap.size, 8, none⟩) (by show w.heap.size < w.heap.size + 1; omega)).trans (by simp [go_sem])
  have c0_9 : w1.cell? ⟨w.heap.size, 9, none⟩ = some (.int .i64 x.ct) := (HX1.out.cell (p := ⟨w.heap.size, 9, none⟩) (by show w.heap.size < w.heap.size + 1; omega)).trans (by simp [go_sem])
  have c0_10 : w1.cell? ⟨w.heap.size, 10, none⟩ = some (.bool x.tn.over) := (HX1.out.cell (p := ⟨w.heap.size, 10, none⟩) (by show w.heap.size < w.heap.size + 1; omega)).trans (by simp [go_sem])
  have c0_11 : w1.cell? ⟨w.heap.size, 11, none⟩ = some (.int .i64 x.tn.cd) := (HX1.out.cell (p := ⟨w.heap.size, 11, none⟩) (by show w.heap.size < w.heap.size + 1; omega)).trans (by simp [go_sem])
  have c0_12 : w1.cell? ⟨w.heap.size, 12, none⟩ = some (.string x.tn.tx) := (HX1.out.cell (p := ⟨w.heap.size, 12, none⟩) (by show w.heap.size < w.heap.size + 1; omega)).trans (by simp [go_sem])
  have c0_13 : w1.cell? ⟨w.heap.size, 13, none⟩ = some (.bool x.tn.has) := (HX1.out.cell (p := ⟨w.heap.size, 13, none⟩) (by show w.heap.size < w.heap.size + 1; omega)).trans (by simp [go_sem])
  have c0_14 : w1.cell? ⟨w.heap.size, 14, none⟩ = some (.string x.tn.nm) := (HX1.out.cell (p := ⟨w.heap.size, 14, none⟩) (by show w.heap.size < w.heap.size + 1; omega)).trans (by simp [go_sem])
  have c0_15 : w1.cell? ⟨w.heap.size, 15, none⟩ = some (.int .i64 x.tn.st) := (HX1.out.cell (p := ⟨w.heap.size, 15, none⟩) (by show w.heap.size < w.heap.size + 1; omega)).trans (by simp [go_sem])
  clear hr hb1 HX1
  go_wp2_with fail
  refine (c39 key _ (by omega)).mono ?_
  rintro e w2 ⟨rfl, hw2⟩
  obtain rfl := hw2.symm
  rw [hd]
  go_wp2_with fail
  refine wp_region_held_drew (S := (fun u => u.cell? ⟨w.heap.size, 0, none⟩ = some (.int .i64 1) ∧ u.cell? ⟨w.heap.size, 1, none⟩ = some (.int .i64 x.to) ∧ u.cell? ⟨w.heap.size, 2, none⟩ = some (.int .i64 x.fr) ∧ u.cell? ⟨w.heap.size, 3, none⟩ = some (.int .i64 x.ep) ∧ u.cell? ⟨w.heap.size, 4, none⟩ = some (.int .i64 x.ed) ∧ u.cell? ⟨w.heap.size, 5, none⟩ = some (.string x.km.nm) ∧ u.cell? ⟨w.heap.size, 6, none⟩ = some (.string x.km.tl) ∧ u.cell? ⟨w.heap.size, 7, none⟩ = some (.string x.km.ar) ∧ u.cell? ⟨w.heap.size, 8, none⟩ = some (.slice ai x.ls.length ci) ∧ u.cell? ⟨w.heap.size, 9, none⟩ = some (.int .i64 x.ct) ∧ u.cell? ⟨w.heap.size, 10, none⟩ = some (.bool x.tn.over) ∧ u.cell? ⟨w.heap.size, 11, none⟩ = some (.int .i64 x.tn.cd) ∧ u.cell? ⟨w.heap.size, 12, none⟩ = some (.string x.tn.tx) ∧ u.cell? ⟨w.heap.size, 13, none⟩ = some (.bool x.tn.has) ∧ u.cell? ⟨w.heap.size, 14, none⟩ = some (.string x.tn.nm) ∧ u.cell? ⟨w.heap.size, 15, none⟩ = some (.int .i64 x.tn.st))) (by kernel_rfl) ?_ (fun hHeld => ?_)
  · ((try dsimp only); go_keep)
  refine wpAnyH_take (i := 1) (oi := { dst := some 17, op := Op.fieldAddr 41 (Operand.tmp 2) 0, type := 0, pos := "l7_mail.go:40", after := #[], guard := none }) (v := ?_) rfl (by kernel_rfl) (by kernel_rfl) (by kernel_rfl) (fun _ _ _ h => h) (Or.inl ⟨by rfl, ?_⟩) (by assumption) ?_
  rotate_left
  · intro wq hSw
    (try dsimp only at hSw)
    go_simp
    try with_reducible rfl
  try simp only [Act.put, List.setIfInBounds_toArray, List.set_cons_zero, List.set_cons_succ]
  refine wpAnyH_take (i := 2) (oi := { dst := some 18, op := Op.load 3 (Operand.tmp 17), type := 3, pos := "l7_mail.go:40", after := #[{ on := 1, ground := Ground.data }], guard := none }) (v := ?_) rfl (by kernel_rfl) (by kernel_rfl) (by kernel_rfl) (fun _ _ _ h => h) (Or.inl ⟨by rfl, ?_⟩) (by assumption) ?_
  rotate_left
  · intro wq hSw
    (try dsimp only at hSw)
    go_simp
    try with_reducible rfl
  try simp only [Act.put, List.setIfInBounds_toArray, List.set_cons_zero, List.set_cons_succ]
  refine wpAnyH_ready (rs := [0, 4]) (by kernel_rfl) (by simp) ?_
  refine AllReadyH.cons (o := { dst := some 16, op := Op.call { callee := Callee.value (Operand.func 40), args := #[], argTypes := #[] }, type := 75, pos := "l7_mail.go:40", after := #[], guard := none }) rfl (fun K hK => ?_) (AllReadyH.cons (o := { dst := some 5, op := Op.alloc 74, type := 0, pos := "l7_mail.go:40", after := #[], guard := none }) rfl (fun K hK => ?_) AllReadyH.nil)
  · go_simp
    refine (c40 _).mono ?_
    rintro e p1 ⟨rfl, hb1⟩
    have HS1 : Hid (Below w1.heap.size w1 p1) := ((Below.refl _ _).drew).trans hb1
    clear hb1
    have c1_0 := (HS1.out.cell (p := ⟨w.heap.size, 0, none⟩) (by exact hz0)).trans c0_0
    have c1_1 := (HS1.out.cell (p := ⟨w.heap.size, 1, none⟩) (by exact hz0)).trans c0_1
    have c1_2 := (HS1.out.cell (p := ⟨w.heap.size, 2, none⟩) (by exact hz0)).trans c0_2
    have c1_3 := (HS1.out.cell (p := ⟨w.heap.size, 3, none⟩) (by exact hz0)).trans c0_3
    have c1_4 := (HS1.out.cell (p := ⟨w.heap.size, 4, none⟩) (by exact hz0)).trans c0_4
    have c1_5 := (HS1.out.cell (p := ⟨w.heap.size, 5, none⟩) (by exact hz0)).trans c0_5
    have c1_6 := (HS1.out.cell (p := ⟨w.heap.size, 6, none⟩) (by exact hz0)).trans c0_6
    have c1_7 := (HS1.out.cell (p := ⟨w.heap.size, 7, none⟩) (by exact hz0)).trans c0_7
    have c1_8 := (HS1.out.cell (p := ⟨w.heap.size, 8, none⟩) (by exact hz0)).trans c0_8
    have c1_9 := (HS1.out.cell (p := ⟨w.heap.size, 9, none⟩) (by exact hz0)).trans c0_9
    have c1_10 := (HS1.out.cell (p := ⟨w.heap.size, 10, none⟩) (by exact hz0)).trans c0_10
    have c1_11 := (HS1.out.cell (p := ⟨w.heap.size, 11, none⟩) (by exact hz0)).trans c0_11
    have c1_12 := (HS1.out.cell (p := ⟨w.heap.size, 12, none⟩) (by exact hz0)).trans c0_12
    have c1_13 := (HS1.out.cell (p := ⟨w.heap.size, 13, none⟩) (by exact hz0)).trans c0_13
    have c1_14 := (HS1.out.cell (p := ⟨w.heap.size, 14, none⟩) (by exact hz0)).trans c0_14
    have c1_15 := (HS1.out.cell (p := ⟨w.heap.size, 15, none⟩) (by exact hz0)).trans c0_15
    clear c0_0 c0_1 c0_2 c0_3 c0_4 c0_5 c0_6 c0_7 c0_8 c0_9 c0_10 c0_11 c0_12 c0_13 c0_14 c0_15
    have hz1 : w.heap.size < p1.heap.size := Nat.lt_of_lt_of_le hz0 HS1.out.size
    go_wp2_with fail
    clear hHeld
    refine hK.out _ _ ?_ (fun hHeld => ?_)
    · ((try dsimp only); go_keep)
    clear hK K
    try simp only [Act.put, List.setIfInBounds_toArray, List.set_cons_zero, List.set_cons_succ]
    refine wpAnyH_take (i := 3) (oi := { dst := some 19, op := Op.index 75 (Operand.tmp 16) (Operand.tmp 18), type := 74, pos := "l7_mail.go:40", after := #[{ on := 0, ground := Ground.data }, { on := 2, ground := Ground.data }], guard := none }) (v := ?_) rfl (by kernel_rfl) (by kernel_rfl) (by kernel_rfl) (fun _ _ _ h => h) (Or.inl ⟨by rfl, ?_⟩) (by assumption) ?_
    rotate_left
    · intro wq hSw
      (try dsimp only at hSw)
      go_simp
      try with_reducible rfl
    try simp only [Act.put, List.setIfInBounds_toArray, List.set_cons_zero, List.set_cons_succ]
    refine wpAnyH_ready (rs := [4]) (by kernel_rfl) (by simp) ?_
    refine AllReadyH.cons (o := { dst := some 5, op := Op.alloc 74, type := 0, pos := "l7_mail.go:40", after := #[], guard := none }) rfl (fun K hK => ?_) AllReadyH.nil
    go_simp
    have HSA : Hid (Below p1.heap.size p1 (p1.alloc (.cells #[.string ⟨#[]⟩, .nilFunc, .nilFunc, .nilFunc] 74))) := (Below.refl _ _).alloc (Nat.le_refl _) _
    have c2_0 := (HSA.out.cell (p := ⟨w.heap.size, 0, none⟩) (by exact hz1)).trans c1_0
    have c2_1 := (HSA.out.cell (p := ⟨w.heap.size, 1, none⟩) (by exact hz1)).trans c1_1
    have c2_2 := (HSA.out.cell (p := ⟨w.heap.size, 2, none⟩) (by exact hz1)).trans c1_2
    have c2_3 := (HSA.out.cell (p := ⟨w.heap.size, 3, none⟩) (by exact hz1)).trans c1_3
    have c2_4 := (HSA.out.cell (p := ⟨w.heap.size, 4, none⟩) (by exact hz1)).trans c1_4
    have c2_5 := (HSA.out.cell (p := ⟨w.heap.size, 5, none⟩) (by exact hz1)).trans c1_5
    have c2_6 := (HSA.out.cell (p := ⟨w.heap.size, 6, none⟩) (by exact hz1)).trans c1_6
    have c2_7 := (HSA.out.cell (p := ⟨w.heap.size, 7, none⟩) (by exact hz1)).trans c1_7
    have c2_8 := (HSA.out.cell (p := ⟨w.heap.size, 8, none⟩) (by exact hz1)).trans c1_8
    have c2_9 := (HSA.out.cell (p := ⟨w.heap.size, 9, none⟩) (by exact hz1)).trans c1_9
    have c2_10 := (HSA.out.cell (p := ⟨w.heap.size, 10, none⟩) (by exact hz1)).trans c1_10
    have c2_11 := (HSA.out.cell (p := ⟨w.heap.size, 11, none⟩) (by exact hz1)).trans c1_11
    have c2_12 := (HSA.out.cell (p := ⟨w.heap.size, 12, none⟩) (by exact hz1)).trans c1_12
    have c2_13 := (HSA.out.cell (p := ⟨w.heap.size, 13, none⟩) (by exact hz1)).trans c1_13
    have c2_14 := (HSA.out.cell (p := ⟨w.heap.size, 14, none⟩) (by exact hz1)).trans c1_14
    have c2_15 := (HSA.out.cell (p := ⟨w.heap.size, 15, none⟩) (by exact hz1)).trans c1_15

    clear hHeld
    refine hK.out _ _ ?_ (fun hHeld => ?_)
    · ((try dsimp only); go_keep)
    clear hK K
    try simp only [Act.put, List.setIfInBounds_toArray, List.set_cons_zero, List.set_cons_succ]
    refine wpAnyH_ready (rs := [5]) (by kernel_rfl) (by simp) ?_
    refine AllReadyH.cons (o := { dst := none, op := Op.store 74 (Operand.tmp 5) (Operand.tmp 19), type := 0, pos := "l7_mail.go:40", after := #[{ on := 4, ground := Ground.data }, { on := 3, ground := Ground.data }, { on := 0, ground := Ground.chain }, { on := 0, ground := Ground.phase }, { on := 1, ground := Ground.phase }, { on := 2, ground := Ground.phase }, { on := 3, ground := Ground.phase }, { on := 4, ground := Ground.phase }], guard := none }) rfl (fun K hK => ?_) AllReadyH.nil
    go_simp
    have HSB : Hid (Below p1.heap.size p1 (p1.alloc (.cells #[.string ⟨#[111, 102, 102, 101, 114]⟩, .func (.func 76) #[] #[], .func (.func 77) #[] #[], .func (.func 78) #[] #[]] 74))) := (Below.refl _ _).alloc (Nat.le_refl _) _
    clear HSA c2_0 c2_1 c2_2 c2_3 c2_4 c2_5 c2_6 c2_7 c2_8 c2_9 c2_10 c2_11 c2_12 c2_13 c2_14 c2_15
    have c3_0 := (HSB.out.cell (p := ⟨w.heap.size, 0, none⟩) (by exact hz1)).trans c1_0
    have c3_1 := (HSB.out.cell (p := ⟨w.heap.size, 1, none⟩) (by exact hz1)).trans c1_1
    have c3_2 := (HSB.out.cell (p := ⟨w.heap.size, 2, none⟩) (by exact hz1)).trans c1_2
    have c3_3 := (HSB.out.cell (p := ⟨w.heap.size, 3, none⟩) (by exact hz1)).trans c1_3
    have c3_4 := (HSB.out.cell (p := ⟨w.heap.size, 4, none⟩) (by exact hz1)).trans c1_4
    have c3_5 := (HSB.out.cell (p := ⟨w.heap.size, 5, none⟩) (by exact hz1)).trans c1_5
    have c3_6 := (HSB.out.cell (p := ⟨w.heap.size, 6, none⟩) (by exact hz1)).trans c1_6
    have c3_7 := (HSB.out.cell (p := ⟨w.heap.size, 7, none⟩) (by exact hz1)).trans c1_7
    have c3_8 := (HSB.out.cell (p := ⟨w.heap.size, 8, none⟩) (by exact hz1)).trans c1_8
    have c3_9 := (HSB.out.cell (p := ⟨w.heap.size, 9, none⟩) (by exact hz1)).trans c1_9
    have c3_10 := (HSB.out.cell (p := ⟨w.heap.size, 10, none⟩) (by exact hz1)).trans c1_10
    have c3_11 := (HSB.out.cell (p := ⟨w.heap.size, 11, none⟩) (by exact hz1)).trans c1_11
    have c3_12 := (HSB.out.cell (p := ⟨w.heap.size, 12, none⟩) (by exact hz1)).trans c1_12
    have c3_13 := (HSB.out.cell (p := ⟨w.heap.size, 13, none⟩) (by exact hz1)).trans c1_13
    have c3_14 := (HSB.out.cell (p := ⟨w.heap.size, 14, none⟩) (by exact hz1)).trans c1_14
    have c3_15 := (HSB.out.cell (p := ⟨w.heap.size, 15, none⟩) (by exact hz1)).trans c1_15
    have q0 : (p1.alloc (.cells #[.string ⟨#[111, 102, 102, 101, 114]⟩, .func (.func 76) #[] #[], .func (.func 77) #[] #[], .func (.func 78) #[] #[]] 74)).cell? ⟨p1.heap.size, 0, none⟩ = some (.string ⟨#[111, 102, 102, 101, 114]⟩) := by simp [go_sem]
    have q1 : (p1.alloc (.cells #[.string ⟨#[111, 102, 102, 101, 114]⟩, .func (.func 76) #[] #[], .func (.func 77) #[] #[], .func (.func 78) #[] #[]] 74)).cell? ⟨p1.heap.size, 1, none⟩ = some (.func (.func 76) #[] #[]) := by simp [go_sem]
    have q2 : (p1.alloc (.cells #[.string ⟨#[111, 102, 102, 101, 114]⟩, .func (.func 76) #[] #[], .func (.func 77) #[] #[], .func (.func 78) #[] #[]] 74)).cell? ⟨p1.heap.size, 2, none⟩ = some (.func (.func 77) #[] #[]) := by simp [go_sem]
    have q3 : (p1.alloc (.cells #[.string ⟨#[111, 102, 102, 101, 114]⟩, .func (.func 76) #[] #[], .func (.func 77) #[] #[], .func (.func 78) #[] #[]] 74)).cell? ⟨p1.heap.size, 3, none⟩ = some (.func (.func 78) #[] #[]) := by simp [go_sem]
    have hq : p1.heap.size < (p1.alloc (.cells #[.string ⟨#[111, 102, 102, 101, 114]⟩, .func (.func 76) #[] #[], .func (.func 77) #[] #[], .func (.func 78) #[] #[]] 74)).heap.size := by simp
    have HV : Hid (Below w1.heap.size w1 (p1.alloc (.cells #[.string ⟨#[111, 102, 102, 101, 114]⟩, .func (.func 76) #[] #[], .func (.func 77) #[] #[], .func (.func 78) #[] #[]] 74))) := HS1.out.trans (HSB.out.mono HS1.out.size)
    have hz3 : w.heap.size < (p1.alloc (.cells #[.string ⟨#[111, 102, 102, 101, 114]⟩, .func (.func 76) #[] #[], .func (.func 77) #[] #[], .func (.func 78) #[] #[]] 74)).heap.size := by simp; omega
    clear HSB HS1 c1_0 c1_1 c1_2 c1_3 c1_4 c1_5 c1_6 c1_7 c1_8 c1_9 c1_10 c1_11 c1_12 c1_13 c1_14 c1_15
    clear hHeld
    refine hK.out _ _ ?_ (fun hHeld => ?_)
    · ((try dsimp only); go_keep)
    clear hK K
    try simp only [Act.put, List.setIfInBounds_toArray, List.set_cons_zero, List.set_cons_succ]
    generalize (p1.alloc (.cells #[.string ⟨#[111, 102, 102, 101, 114]⟩, .func (.func 76) #[] #[], .func (.func 77) #[] #[], .func (.func 78) #[] #[]] 74)) = p3 at *
    generalize p1.heap.size = bk at *
    refine wpAnyH_done (by kernel_rfl) ?_ _
    clear hHeld
    have HPV : Hid (Pow p3) := pow_below HP.out (hBw1.trans (HV.out.mono hBw1.size))
    have k1 : ¬ 9223372036854775807 < 5 + 1 + (ofL (offerW x)).size := by omega
    have k2 : ¬ 9223372036854775807 < 6 + (ofL (offerW x)).size := by omega
    go_wp2_with fail
    refine wp_region_held_drew (S := (fun u => u.cell? ⟨w.heap.size, 0, none⟩ = some (.int .i64 1) ∧ u.cell? ⟨w.heap.size, 1, none⟩ = some (.int .i64 x.to) ∧ u.cell? ⟨w.heap.size, 2, none⟩ = some (.int .i64 x.fr) ∧ u.cell? ⟨w.heap.size, 3, none⟩ = some (.int .i64 x.ep) ∧ u.cell? ⟨w.heap.size, 4, none⟩ = some (.int .i64 x.ed) ∧ u.cell? ⟨w.heap.size, 5, none⟩ = some (.string x.km.nm) ∧ u.cell? ⟨w.heap.size, 6, none⟩ = some (.string x.km.tl) ∧ u.cell? ⟨w.heap.size, 7, none⟩ = some (.string x.km.ar) ∧ u.cell? ⟨w.heap.size, 8, none⟩ = some (.slice ai x.ls.length ci) ∧ u.cell? ⟨w.heap.size, 9, none⟩ = some (.int .i64 x.ct) ∧ u.cell? ⟨w.heap.size, 10, none⟩ = some (.bool x.tn.over) ∧ u.cell? ⟨w.heap.size, 11, none⟩ = some (.int .i64 x.tn.cd) ∧ u.cell? ⟨w.heap.size, 12, none⟩ = some (.string x.tn.tx) ∧ u.cell? ⟨w.heap.size, 13, none⟩ = some (.bool x.tn.has) ∧ u.cell? ⟨w.heap.size, 14, none⟩ = some (.string x.tn.nm) ∧ u.cell? ⟨w.heap.size, 15, none⟩ = some (.int .i64 x.tn.st) ∧ u.cell? ⟨bk, 0, none⟩ = some (.string ⟨#[111, 102, 102, 101, 114]⟩) ∧ u.cell? ⟨bk, 1, none⟩ = some (.func (.func 76) #[] #[]) ∧ u.cell? ⟨bk, 2, none⟩ = some (.func (.func 77) #[] #[]) ∧ u.cell? ⟨bk, 3, none⟩ = some (.func (.func 78) #[] #[]))) (by kernel_rfl) ?_ (fun hHeld => ?_)
    · ((try dsimp only); go_keep)
    refine wpAnyH_take (i := 0) (oi := { dst := some 20, op := Op.fieldAddr 74 (Operand.tmp 5) 0, type := 0, pos := "l7_mail.go:41", after := #[], guard := none }) (v := ?_) rfl (by kernel_rfl) (by kernel_rfl) (by kernel_rfl) (fun _ _ _ h => h) (Or.inl ⟨by rfl, ?_⟩) (by assumption) ?_
    rotate_left
    · intro wq hSw
      (try dsimp only at hSw)
      go_simp
      try with_reducible rfl
    try simp only [Act.put, List.setIfInBounds_toArray, List.set_cons_zero, List.set_cons_succ]
    refine wpAnyH_take (i := 1) (oi := { dst := some 21, op := Op.load 9 (Operand.tmp 20), type := 9, pos := "l7_mail.go:41", after := #[{ on := 0, ground := Ground.data }], guard := none }) (v := ?_) rfl (by kernel_rfl) (by kernel_rfl) (by kernel_rfl) (fun _ _ _ h => h) (Or.inl ⟨by rfl, ?_⟩) (by assumption) ?_
    rotate_left
    · intro wq hSw
      (try dsimp only at hSw)
      go_simp
      try with_reducible rfl
    try simp only [Act.put, List.setIfInBounds_toArray, List.set_cons_zero, List.set_cons_succ]
    refine wpAnyH_take (i := 2) (oi := { dst := some 22, op := Op.binOp BinOp.add 9 (Operand.tmp 21) (Operand.const (Value.string { data := #[32] })) 9, type := 9, pos := "l7_mail.go:41", after := #[{ on := 1, ground := Ground.data }], guard := none }) (v := ?_) rfl (by kernel_rfl) (by kernel_rfl) (by kernel_rfl) (fun _ _ _ h => h) (Or.inl ⟨by rfl, ?_⟩) (by assumption) ?_
    rotate_left
    · intro wq hSw
      (try dsimp only at hSw)
      go_simp
      try with_reducible rfl
    try simp only [Act.put, List.setIfInBounds_toArray, List.set_cons_zero, List.set_cons_succ]
    refine wpAnyH_take (i := 3) (oi := { dst := some 23, op := Op.fieldAddr 74 (Operand.tmp 5) 2, type := 0, pos := "l7_mail.go:41", after := #[], guard := none }) (v := ?_) rfl (by kernel_rfl) (by kernel_rfl) (by kernel_rfl) (fun _ _ _ h => h) (Or.inl ⟨by rfl, ?_⟩) (by assumption) ?_
    rotate_left
    · intro wq hSw
      (try dsimp only at hSw)
      go_simp
      try with_reducible rfl
    try simp only [Act.put, List.setIfInBounds_toArray, List.set_cons_zero, List.set_cons_succ]
    refine wpAnyH_take (i := 4) (oi := { dst := some 24, op := Op.load 61 (Operand.tmp 23), type := 61, pos := "l7_mail.go:41", after := #[{ on := 3, ground := Ground.data }], guard := none }) (v := ?_) rfl (by kernel_rfl) (by kernel_rfl) (by kernel_rfl) (fun _ _ _ h => h) (Or.inl ⟨by rfl, ?_⟩) (by assumption) ?_
    rotate_left
    · intro wq hSw
      (try dsimp only at hSw)
      go_simp
      try with_reducible rfl
    try simp only [Act.put, List.setIfInBounds_toArray, List.set_cons_zero, List.set_cons_succ]
    refine wpAnyH_take (i := 5) (oi := { dst := some 25, op := Op.load 41 (Operand.tmp 2), type := 41, pos := "l7_mail.go:41", after := #[], guard := none }) (v := ?_) rfl (by kernel_rfl) (by kernel_rfl) (by kernel_rfl) (fun _ _ _ h => h) (Or.inl ⟨by rfl, ?_⟩) (by assumption) ?_
    rotate_left
    · intro wq hSw
      (try dsimp only at hSw)
      go_simp
      try with_reducible rfl
    try simp only [Act.put, List.setIfInBounds_toArray, List.set_cons_zero, List.set_cons_succ]
    refine wpAnyH_ready (rs := [6]) (by kernel_rfl) (by simp) ?_
    refine AllReadyH.cons (o := { dst := some 26, op := Op.call { callee := Callee.value (Operand.tmp 24), args := #[Operand.tmp 25], argTypes := #[41] }, type := 9, pos := "l7_mail.go:41", after := #[{ on := 4, ground := Ground.data }, { on := 5, ground := Ground.data }], guard := none }) rfl (fun K hK => ?_) AllReadyH.nil
    go_simp
    refine (c77 x 1 ai ci _ (pow_below HPV.out ((Below.refl _ _).drew)) r1 r2 r3 hom hol hss (lks_below HAT.out ((hBw1.trans (HV.out.mono hBw1.size)).drew)) zb zl).mono ?_
    rintro e p4 ⟨rfl, hb4⟩
    have HS4 : Hid (Below p3.heap.size p3 p4) := ((Below.refl _ _).drew).trans hb4
    clear hb4
    have c4_0 := (HS4.out.cell (p := ⟨w.heap.size, 0, none⟩) (by exact hz3)).trans c3_0
    have c4_1 := (HS4.out.cell (p := ⟨w.heap.size, 1, none⟩) (by exact hz3)).trans c3_1
    have c4_2 := (HS4.out.cell (p := ⟨w.heap.size, 2, none⟩) (by exact hz3)).trans c3_2
    have c4_3 := (HS4.out.cell (p := ⟨w.heap.size, 3, none⟩) (by exact hz3)).trans c3_3
    have c4_4 := (HS4.out.cell (p := ⟨w.heap.size, 4, none⟩) (by exact hz3)).trans c3_4
    have c4_5 := (HS4.out.cell (p := ⟨w.heap.size, 5, none⟩) (by exact hz3)).trans c3_5
    have c4_6 := (HS4.out.cell (p := ⟨w.heap.size, 6, none⟩) (by exact hz3)).trans c3_6
    have c4_7 := (HS4.out.cell (p := ⟨w.heap.size, 7, none⟩) (by exact hz3)).trans c3_7
    have c4_8 := (HS4.out.cell (p := ⟨w.heap.size, 8, none⟩) (by exact hz3)).trans c3_8
    have c4_9 := (HS4.out.cell (p := ⟨w.heap.size, 9, none⟩) (by exact hz3)).trans c3_9
    have c4_10 := (HS4.out.cell (p := ⟨w.heap.size, 10, none⟩) (by exact hz3)).trans c3_10
    have c4_11 := (HS4.out.cell (p := ⟨w.heap.size, 11, none⟩) (by exact hz3)).trans c3_11
    have c4_12 := (HS4.out.cell (p := ⟨w.heap.size, 12, none⟩) (by exact hz3)).trans c3_12
    have c4_13 := (HS4.out.cell (p := ⟨w.heap.size, 13, none⟩) (by exact hz3)).trans c3_13
    have c4_14 := (HS4.out.cell (p := ⟨w.heap.size, 14, none⟩) (by exact hz3)).trans c3_14
    have c4_15 := (HS4.out.cell (p := ⟨w.heap.size, 15, none⟩) (by exact hz3)).trans c3_15
    have u0 := (HS4.out.cell (p := ⟨bk, 0, none⟩) (by exact hq)).trans q0
    have u1 := (HS4.out.cell (p := ⟨bk, 1, none⟩) (by exact hq)).trans q1
    have u2 := (HS4.out.cell (p := ⟨bk, 2, none⟩) (by exact hq)).trans q2
    have u3 := (HS4.out.cell (p := ⟨bk, 3, none⟩) (by exact hq)).trans q3

    go_wp2_with fail
    clear hHeld
    refine hK.out _ _ ?_ (fun hHeld => ?_)
    · ((try dsimp only); go_keep)
    clear hK K
    try simp only [Act.put, List.setIfInBounds_toArray, List.set_cons_zero, List.set_cons_succ]
    refine wpAnyH_take (i := 7) (oi := { dst := some 27, op := Op.binOp BinOp.add 9 (Operand.tmp 22) (Operand.tmp 26) 9, type := 9, pos := "l7_mail.go:41", after := #[{ on := 2, ground := Ground.data }, { on := 6, ground := Ground.data }], guard := none }) (v := ?_) rfl (by kernel_rfl) (by kernel_rfl) (by kernel_rfl) (fun _ _ _ h => h) (Or.inl ⟨by rfl, ?_⟩) (by assumption) ?_
    rotate_left
    · intro wq hSw
      (try dsimp only at hSw)
      go_simp
      try with_reducible rfl
    try simp only [Act.put, List.setIfInBounds_toArray, List.set_cons_zero, List.set_cons_succ]
    refine wpAnyH_take (i := 8) (oi := { dst := some 6, op := Op.assign (Operand.tmp 27), type := 9, pos := "l7_mail.go:41", after := #[{ on := 7, ground := Ground.data }, { on := 6, ground := Ground.chain }, { on := 0, ground := Ground.phase }, { on := 1, ground := Ground.phase }, { on := 2, ground := Ground.phase }, { on := 3, ground := Ground.phase }, { on := 4, ground := Ground.phase }, { on := 5, ground := Ground.phase }, { on := 6, ground := Ground.phase }, { on := 7, ground := Ground.phase }], guard := none }) (v := ?_) rfl (by kernel_rfl) (by kernel_rfl) (by kernel_rfl) (fun _ _ _ h => h) (Or.inl ⟨by rfl, ?_⟩) (by assumption) ?_
    rotate_left
    · intro wq hSw
      (try dsimp only at hSw)
      go_simp
      try with_reducible rfl
    try simp only [Act.put, List.setIfInBounds_toArray, List.set_cons_zero, List.set_cons_succ]
    refine wpAnyH_done (by kernel_rfl) ?_ _
    clear hHeld
    have hB4 : Below w.heap.size w p4 := (hBw1.trans (HV.out.mono hBw1.size)).trans (HS4.out.mono (hBw1.trans (HV.out.mono hBw1.size)).size)
    rw [HE.out]
    go_wp2_with fail
    refine (c41 (ofL (offerL x)) key _ (by omega) (by omega)).mono ?_
    rintro e p5 ⟨rfl, hb5⟩
    have hB5 : Below w.heap.size w p5 := hB4.trans (hb5.mono hB4.size)
    clear hb5
    have k3 : ¬ 9223372036854775807 < (tagS (ofL (offerL x)) key).size + (ofL (offerL x)).size := by omega
    go_wp2
    go_ret
    exact ⟨rfl, hB5⟩
  · go_simp
    have HS1 : Hid (Below w1.heap.size w1 (w1.alloc (.cells #[.string ⟨#[]⟩, .nilFunc, .nilFunc, .nilFunc] 74)).drew) := ((Below.refl _ _).alloc (Nat.le_refl _) _).drew
    have c1_0 := (HS1.out.cell (p := ⟨w.heap.size, 0, none⟩) (by exact hz0)).trans c0_0
    have c1_1 := (HS1.out.cell (p := ⟨w.heap.size, 1, none⟩) (by exact hz0)).trans c0_1
    have c1_2 := (HS1.out.cell (p := ⟨w.heap.size, 2, none⟩) (by exact hz0)).trans c0_2
    have c1_3 := (HS1.out.cell (p := ⟨w.heap.size, 3, none⟩) (by exact hz0)).trans c0_3
    have c1_4 := (HS1.out.cell (p := ⟨w.heap.size, 4, none⟩) (by exact hz0)).trans c0_4
    have c1_5 := (HS1.out.cell (p := ⟨w.heap.size, 5, none⟩) (by exact hz0)).trans c0_5
    have c1_6 := (HS1.out.cell (p := ⟨w.heap.size, 6, none⟩) (by exact hz0)).trans c0_6
    have c1_7 := (HS1.out.cell (p := ⟨w.heap.size, 7, none⟩) (by exact hz0)).trans c0_7
    have c1_8 := (HS1.out.cell (p := ⟨w.heap.size, 8, none⟩) (by exact hz0)).trans c0_8
    have c1_9 := (HS1.out.cell (p := ⟨w.heap.size, 9, none⟩) (by exact hz0)).trans c0_9
    have c1_10 := (HS1.out.cell (p := ⟨w.heap.size, 10, none⟩) (by exact hz0)).trans c0_10
    have c1_11 := (HS1.out.cell (p := ⟨w.heap.size, 11, none⟩) (by exact hz0)).trans c0_11
    have c1_12 := (HS1.out.cell (p := ⟨w.heap.size, 12, none⟩) (by exact hz0)).trans c0_12
    have c1_13 := (HS1.out.cell (p := ⟨w.heap.size, 13, none⟩) (by exact hz0)).trans c0_13
    have c1_14 := (HS1.out.cell (p := ⟨w.heap.size, 14, none⟩) (by exact hz0)).trans c0_14
    have c1_15 := (HS1.out.cell (p := ⟨w.heap.size, 15, none⟩) (by exact hz0)).trans c0_15
    clear c0_0 c0_1 c0_2 c0_3 c0_4 c0_5 c0_6 c0_7 c0_8 c0_9 c0_10 c0_11 c0_12 c0_13 c0_14 c0_15
    have z0 : (w1.alloc (.cells #[.string ⟨#[]⟩, .nilFunc, .nilFunc, .nilFunc] 74)).drew.cell? ⟨w1.heap.size, 0, none⟩ = some (.string ⟨#[]⟩) := by simp [go_sem]
    have z1 : (w1.alloc (.cells #[.string ⟨#[]⟩, .nilFunc, .nilFunc, .nilFunc] 74)).drew.cell? ⟨w1.heap.size, 1, none⟩ = some (.nilFunc) := by simp [go_sem]
    have z2 : (w1.alloc (.cells #[.string ⟨#[]⟩, .nilFunc, .nilFunc, .nilFunc] 74)).drew.cell? ⟨w1.heap.size, 2, none⟩ = some (.nilFunc) := by simp [go_sem]
    have z3 : (w1.alloc (.cells #[.string ⟨#[]⟩, .nilFunc, .nilFunc, .nilFunc] 74)).drew.cell? ⟨w1.heap.size, 3, none⟩ = some (.nilFunc) := by simp [go_sem]
    have zf : ∀ j, (w1.alloc (.cells #[.string ⟨#[]⟩, .nilFunc, .nilFunc, .nilFunc] 74)).drew.frozen? ⟨w1.heap.size, j, none⟩ = false := fun j => by simp [go_sem]
    have hq1 : w1.heap.size < (w1.alloc (.cells #[.string ⟨#[]⟩, .nilFunc, .nilFunc, .nilFunc] 74)).drew.heap.size := by simp
    have hz1 : w.heap.size < (w1.alloc (.cells #[.string ⟨#[]⟩, .nilFunc, .nilFunc, .nilFunc] 74)).drew.heap.size := by simp; omega
    generalize (w1.alloc (.cells #[.string ⟨#[]⟩, .nilFunc, .nilFunc, .nilFunc] 74)).drew = p1 at *
    clear hHeld
    refine hK.out _ _ ?_ (fun hHeld => ?_)
    · ((try dsimp only); go_keep)
    clear hK K
    try simp only [Act.put, List.setIfInBounds_toArray, List.set_cons_zero, List.set_cons_succ]
    refine wpAnyH_ready (rs := [0]) (by kernel_rfl) (by simp) ?_
    refine AllReadyH.cons (o := { dst := some 16, op := Op.call { callee := Callee.value (Operand.func 40), args := #[], argTypes := #[] }, type := 75, pos := "l7_mail.go:40", after := #[], guard := none }) rfl (fun K hK => ?_) AllReadyH.nil
    go_simp
    refine (c40 _).mono ?_
    rintro e p2 ⟨rfl, hb2⟩
    have HS2 : Hid (Below p1.heap.size p1 p2) :=  hb2
    clear hb2
    have c2_0 := (HS2.out.cell (p := ⟨w.heap.size, 0, none⟩) (by exact hz1)).trans c1_0
    have c2_1 := (HS2.out.cell (p := ⟨w.heap.size, 1, none⟩) (by exact hz1)).trans c1_1
    have c2_2 := (HS2.out.cell (p := ⟨w.heap.size, 2, none⟩) (by exact hz1)).trans c1_2
    have c2_3 := (HS2.out.cell (p := ⟨w.heap.size, 3, none⟩) (by exact hz1)).trans c1_3
    have c2_4 := (HS2.out.cell (p := ⟨w.heap.size, 4, none⟩) (by exact hz1)).trans c1_4
    have c2_5 := (HS2.out.cell (p := ⟨w.heap.size, 5, none⟩) (by exact hz1)).trans c1_5
    have c2_6 := (HS2.out.cell (p := ⟨w.heap.size, 6, none⟩) (by exact hz1)).trans c1_6
    have c2_7 := (HS2.out.cell (p := ⟨w.heap.size, 7, none⟩) (by exact hz1)).trans c1_7
    have c2_8 := (HS2.out.cell (p := ⟨w.heap.size, 8, none⟩) (by exact hz1)).trans c1_8
    have c2_9 := (HS2.out.cell (p := ⟨w.heap.size, 9, none⟩) (by exact hz1)).trans c1_9
    have c2_10 := (HS2.out.cell (p := ⟨w.heap.size, 10, none⟩) (by exact hz1)).trans c1_10
    have c2_11 := (HS2.out.cell (p := ⟨w.heap.size, 11, none⟩) (by exact hz1)).trans c1_11
    have c2_12 := (HS2.out.cell (p := ⟨w.heap.size, 12, none⟩) (by exact hz1)).trans c1_12
    have c2_13 := (HS2.out.cell (p := ⟨w.heap.size, 13, none⟩) (by exact hz1)).trans c1_13
    have c2_14 := (HS2.out.cell (p := ⟨w.heap.size, 14, none⟩) (by exact hz1)).trans c1_14
    have c2_15 := (HS2.out.cell (p := ⟨w.heap.size, 15, none⟩) (by exact hz1)).trans c1_15
    clear c1_0 c1_1 c1_2 c1_3 c1_4 c1_5 c1_6 c1_7 c1_8 c1_9 c1_10 c1_11 c1_12 c1_13 c1_14 c1_15
    have hz2 : w.heap.size < p2.heap.size := Nat.lt_of_lt_of_le hz1 HS2.out.size
    have y0 := (HS2.out.cell (p := ⟨w1.heap.size, 0, none⟩) hq1).trans z0
    have y1 := (HS2.out.cell (p := ⟨w1.heap.size, 1, none⟩) hq1).trans z1
    have y2 := (HS2.out.cell (p := ⟨w1.heap.size, 2, none⟩) hq1).trans z2
    have y3 := (HS2.out.cell (p := ⟨w1.heap.size, 3, none⟩) hq1).trans z3
    have yf0 : p2.frozen? ⟨w1.heap.size, 0, none⟩ = false := (HS2.out.frozen (p := ⟨w1.heap.size, 0, none⟩) hq1).trans (zf 0)
    have yf1 : p2.frozen? ⟨w1.heap.size, 1, none⟩ = false := (HS2.out.frozen (p := ⟨w1.heap.size, 1, none⟩) hq1).trans (zf 1)
    have yf2 : p2.frozen? ⟨w1.heap.size, 2, none⟩ = false := (HS2.out.frozen (p := ⟨w1.heap.size, 2, none⟩) hq1).trans (zf 2)
    have yf3 : p2.frozen? ⟨w1.heap.size, 3, none⟩ = false := (HS2.out.frozen (p := ⟨w1.heap.size, 3, none⟩) hq1).trans (zf 3)
    have hq2 := Nat.lt_of_lt_of_le hq1 HS2.out.size
    clear z0 z1 z2 z3 zf
    go_wp2_with fail
    clear hHeld
    refine hK.out _ _ ?_ (fun hHeld => ?_)
    · ((try dsimp only); go_keep)
    clear hK K
    try simp only [Act.put, List.setIfInBounds_toArray, List.set_cons_zero, List.set_cons_succ]
    refine wpAnyH_take (i := 3) (oi := { dst := some 19, op := Op.index 75 (Operand.tmp 16) (Operand.tmp 18), type := 74, pos := "l7_mail.go:40", after := #[{ on := 0, ground := Ground.data }, { on := 2, ground := Ground.data }], guard := none }) (v := ?_) rfl (by kernel_rfl) (by kernel_rfl) (by kernel_rfl) (fun _ _ _ h => h) (Or.inl ⟨by rfl, ?_⟩) (by assumption) ?_
    rotate_left
    · intro wq hSw
      (try dsimp only at hSw)
      go_simp
      try with_reducible rfl
    try simp only [Act.put, List.setIfInBounds_toArray, List.set_cons_zero, List.set_cons_succ]
    refine wpAnyH_ready (rs := [5]) (by kernel_rfl) (by simp) ?_
    refine AllReadyH.cons (o := { dst := none, op := Op.store 74 (Operand.tmp 5) (Operand.tmp 19), type := 0, pos := "l7_mail.go:40", after := #[{ on := 4, ground := Ground.data }, { on := 3, ground := Ground.data }, { on := 0, ground := Ground.chain }, { on := 0, ground := Ground.phase }, { on := 1, ground := Ground.phase }, { on := 2, ground := Ground.phase }, { on := 3, ground := Ground.phase }, { on := 4, ground := Ground.phase }], guard := none }) rfl (fun K hK => ?_) AllReadyH.nil
    go_simp
    have c3_0 : ((((p2.setCell ⟨w1.heap.size, 0, none⟩ (.string ⟨#[111, 102, 102, 101, 114]⟩)).setCell ⟨w1.heap.size, 1, none⟩ (.func (.func 76) #[] #[])).setCell ⟨w1.heap.size, 2, none⟩ (.func (.func 77) #[] #[])).setCell ⟨w1.heap.size, 3, none⟩ (.func (.func 78) #[] #[])).cell? ⟨w.heap.size, 0, none⟩ = some (.int .i64 1) := (World.cell?_setCell_far _ _ _ _ (by show w1.heap.size ≠ w.heap.size; omega)).trans ((World.cell?_setCell_far _ _ _ _ (by show w1.heap.size ≠ w.heap.size; omega)).trans ((World.cell?_setCell_far _ _ _ _ (by show w1.heap.size ≠ w.heap.size; omega)).trans ((World.cell?_setCell_far _ _ _ _ (by show w1.heap.size ≠ w.heap.size; omega)).trans c2_0)))
    have c3_1 : ((((p2.setCell ⟨w1.heap.size, 0, none⟩ (.string ⟨#[111, 102, 102, 101, 114]⟩)).setCell ⟨w1.heap.size, 1, none⟩ (.func (.func 76) #[] #[])).setCell ⟨w1.heap.size, 2, none⟩ (.func (.func 77) #[] #[])).setCell ⟨w1.heap.size, 3, none⟩ (.func (.func 78) #[] #[])).cell? ⟨w.heap.size, 1, none⟩ = some (.int .i64 x.to) := (World.cell?_setCell_far _ _ _ _ (by show w1.heap.size ≠ w.heap.size; omega)).trans ((World.cell?_setCell_far _ _ _ _ (by show w1.heap.size ≠ w.heap.size; omega)).trans ((World.cell?_setCell_far _ _ _ _ (by show w1.heap.size ≠ w.heap.size; omega)).trans ((World.cell?_setCell_far _ _ _ _ (by show w1.heap.size ≠ w.heap.size; omega)).trans c2_1)))
    have c3_2 : ((((p2.setCell ⟨w1.heap.size, 0, none⟩ (.string ⟨#[111, 102, 102, 101, 114]⟩)).setCell ⟨w1.heap.size, 1, none⟩ (.func (.func 76) #[] #[])).setCell ⟨w1.heap.size, 2, none⟩ (.func (.func 77) #[] #[])).setCell ⟨w1.heap.size, 3, none⟩ (.func (.func 78) #[] #[])).cell? ⟨w.heap.size, 2, none⟩ = some (.int .i64 x.fr) := (World.cell?_setCell_far _ _ _ _ (by show w1.heap.size ≠ w.heap.size; omega)).trans ((World.cell?_setCell_far _ _ _ _ (by show w1.heap.size ≠ w.heap.size; omega)).trans ((World.cell?_setCell_far _ _ _ _ (by show w1.heap.size ≠ w.heap.size; omega)).trans ((World.cell?_setCell_far _ _ _ _ (by show w1.heap.size ≠ w.heap.size; omega)).trans c2_2)))
    have c3_3 : ((((p2.setCell ⟨w1.heap.size, 0, none⟩ (.string ⟨#[111, 102, 102, 101, 114]⟩)).setCell ⟨w1.heap.size, 1, none⟩ (.func (.func 76) #[] #[])).setCell ⟨w1.heap.size, 2, none⟩ (.func (.func 77) #[] #[])).setCell ⟨w1.heap.size, 3, none⟩ (.func (.func 78) #[] #[])).cell? ⟨w.heap.size, 3, none⟩ = some (.int .i64 x.ep) := (World.cell?_setCell_far _ _ _ _ (by show w1.heap.size ≠ w.heap.size; omega)).trans ((World.cell?_setCell_far _ _ _ _ (by show w1.heap.size ≠ w.heap.size; omega)).trans ((World.cell?_setCell_far _ _ _ _ (by show w1.heap.size ≠ w.heap.size; omega)).trans ((World.cell?_setCell_far _ _ _ _ (by show w1.heap.size ≠ w.heap.size; omega)).trans c2_3)))
    have c3_4 : ((((p2.setCell ⟨w1.heap.size, 0, none⟩ (.string ⟨#[111, 102, 102, 101, 114]⟩)).setCell ⟨w1.heap.size, 1, none⟩ (.func (.func 76) #[] #[])).setCell ⟨w1.heap.size, 2, none⟩ (.func (.func 77) #[] #[])).setCell ⟨w1.heap.size, 3, none⟩ (.func (.func 78) #[] #[])).cell? ⟨w.heap.size, 4, none⟩ = some (.int .i64 x.ed) := (World.cell?_setCell_far _ _ _ _ (by show w1.heap.size ≠ w.heap.size; omega)).trans ((World.cell?_setCell_far _ _ _ _ (by show w1.heap.size ≠ w.heap.size; omega)).trans ((World.cell?_setCell_far _ _ _ _ (by show w1.heap.size ≠ w.heap.size; omega)).trans ((World.cell?_setCell_far _ _ _ _ (by show w1.heap.size ≠ w.heap.size; omega)).trans c2_4)))
    have c3_5 : ((((p2.setCell ⟨w1.heap.size, 0, none⟩ (.string ⟨#[111, 102, 102, 101, 114]⟩)).setCell ⟨w1.heap.size, 1, none⟩ (.func (.func 76) #[] #[])).setCell ⟨w1.heap.size, 2, none⟩ (.func (.func 77) #[] #[])).setCell ⟨w1.heap.size, 3, none⟩ (.func (.func 78) #[] #[])).cell? ⟨w.heap.size, 5, none⟩ = some (.string x.km.nm) := (World.cell?_setCell_far _ _ _ _ (by show w1.heap.size ≠ w.heap.size; omega)).trans ((World.cell?_setCell_far _ _ _ _ (by show w1.heap.size ≠ w.heap.size; omega)).trans ((World.cell?_setCell_far _ _ _ _ (by show w1.heap.size ≠ w.heap.size; omega)).trans ((World.cell?_setCell_far _ _ _ _ (by show w1.heap.size ≠ w.heap.size; omega)).trans c2_5)))
    have c3_6 : ((((p2.setCell ⟨w1.heap.size, 0, none⟩ (.string ⟨#[111, 102, 102, 101, 114]⟩)).setCell ⟨w1.heap.size, 1, none⟩ (.func (.func 76) #[] #[])).setCell ⟨w1.heap.size, 2, none⟩ (.func (.func 77) #[] #[])).setCell ⟨w1.heap.size, 3, none⟩ (.func (.func 78) #[] #[])).cell? ⟨w.heap.size, 6, none⟩ = some (.string x.km.tl) := (World.cell?_setCell_far _ _ _ _ (by show w1.heap.size ≠ w.heap.size; omega)).trans ((World.cell?_setCell_far _ _ _ _ (by show w1.heap.size ≠ w.heap.size; omega)).trans ((World.cell?_setCell_far _ _ _ _ (by show w1.heap.size ≠ w.heap.size; omega)).trans ((World.cell?_setCell_far _ _ _ _ (by show w1.heap.size ≠ w.heap.size; omega)).trans c2_6)))
    have c3_7 : ((((p2.setCell ⟨w1.heap.size, 0, none⟩ (.string ⟨#[111, 102, 102, 101, 114]⟩)).setCell ⟨w1.heap.size, 1, none⟩ (.func (.func 76) #[] #[])).setCell ⟨w1.heap.size, 2, none⟩ (.func (.func 77) #[] #[])).setCell ⟨w1.heap.size, 3, none⟩ (.func (.func 78) #[] #[])).cell? ⟨w.heap.size, 7, none⟩ = some (.string x.km.ar) := (World.cell?_setCell_far _ _ _ _ (by show w1.heap.size ≠ w.heap.size; omega)).trans ((World.cell?_setCell_far _ _ _ _ (by show w1.heap.size ≠ w.heap.size; omega)).trans ((World.cell?_setCell_far _ _ _ _ (by show w1.heap.size ≠ w.heap.size; omega)).trans ((World.cell?_setCell_far _ _ _ _ (by show w1.heap.size ≠ w.heap.size; omega)).trans c2_7)))
    have c3_8 : ((((p2.setCell ⟨w1.heap.size, 0, none⟩ (.string ⟨#[111, 102, 102, 101, 114]⟩)).setCell ⟨w1.heap.size, 1, none⟩ (.func (.func 76) #[] #[])).setCell ⟨w1.heap.size, 2, none⟩ (.func (.func 77) #[] #[])).setCell ⟨w1.heap.size, 3, none⟩ (.func (.func 78) #[] #[])).cell? ⟨w.heap.size, 8, none⟩ = some (.slice ai x.ls.length ci) := (World.cell?_setCell_far _ _ _ _ (by show w1.heap.size ≠ w.heap.size; omega)).trans ((World.cell?_setCell_far _ _ _ _ (by show w1.heap.size ≠ w.heap.size; omega)).trans ((World.cell?_setCell_far _ _ _ _ (by show w1.heap.size ≠ w.heap.size; omega)).trans ((World.cell?_setCell_far _ _ _ _ (by show w1.heap.size ≠ w.heap.size; omega)).trans c2_8)))
    have c3_9 : ((((p2.setCell ⟨w1.heap.size, 0, none⟩ (.string ⟨#[111, 102, 102, 101, 114]⟩)).setCell ⟨w1.heap.size, 1, none⟩ (.func (.func 76) #[] #[])).setCell ⟨w1.heap.size, 2, none⟩ (.func (.func 77) #[] #[])).setCell ⟨w1.heap.size, 3, none⟩ (.func (.func 78) #[] #[])).cell? ⟨w.heap.size, 9, none⟩ = some (.int .i64 x.ct) := (World.cell?_setCell_far _ _ _ _ (by show w1.heap.size ≠ w.heap.size; omega)).trans ((World.cell?_setCell_far _ _ _ _ (by show w1.heap.size ≠ w.heap.size; omega)).trans ((World.cell?_setCell_far _ _ _ _ (by show w1.heap.size ≠ w.heap.size; omega)).trans ((World.cell?_setCell_far _ _ _ _ (by show w1.heap.size ≠ w.heap.size; omega)).trans c2_9)))
    have c3_10 : ((((p2.setCell ⟨w1.heap.size, 0, none⟩ (.string ⟨#[111, 102, 102, 101, 114]⟩)).setCell ⟨w1.heap.size, 1, none⟩ (.func (.func 76) #[] #[])).setCell ⟨w1.heap.size, 2, none⟩ (.func (.func 77) #[] #[])).setCell ⟨w1.heap.size, 3, none⟩ (.func (.func 78) #[] #[])).cell? ⟨w.heap.size, 10, none⟩ = some (.bool x.tn.over) := (World.cell?_setCell_far _ _ _ _ (by show w1.heap.size ≠ w.heap.size; omega)).trans ((World.cell?_setCell_far _ _ _ _ (by show w1.heap.size ≠ w.heap.size; omega)).trans ((World.cell?_setCell_far _ _ _ _ (by show w1.heap.size ≠ w.heap.size; omega)).trans ((World.cell?_setCell_far _ _ _ _ (by show w1.heap.size ≠ w.heap.size; omega)).trans c2_10)))
    have c3_11 : ((((p2.setCell ⟨w1.heap.size, 0, none⟩ (.string ⟨#[111, 102, 102, 101, 114]⟩)).setCell ⟨w1.heap.size, 1, none⟩ (.func (.func 76) #[] #[])).setCell ⟨w1.heap.size, 2, none⟩ (.func (.func 77) #[] #[])).setCell ⟨w1.heap.size, 3, none⟩ (.func (.func 78) #[] #[])).cell? ⟨w.heap.size, 11, none⟩ = some (.int .i64 x.tn.cd) := (World.cell?_setCell_far _ _ _ _ (by show w1.heap.size ≠ w.heap.size; omega)).trans ((World.cell?_setCell_far _ _ _ _ (by show w1.heap.size ≠ w.heap.size; omega)).trans ((World.cell?_setCell_far _ _ _ _ (by show w1.heap.size ≠ w.heap.size; omega)).trans ((World.cell?_setCell_far _ _ _ _ (by show w1.heap.size ≠ w.heap.size; omega)).trans c2_11)))
    have c3_12 : ((((p2.setCell ⟨w1.heap.size, 0, none⟩ (.string ⟨#[111, 102, 102, 101, 114]⟩)).setCell ⟨w1.heap.size, 1, none⟩ (.func (.func 76) #[] #[])).setCell ⟨w1.heap.size, 2, none⟩ (.func (.func 77) #[] #[])).setCell ⟨w1.heap.size, 3, none⟩ (.func (.func 78) #[] #[])).cell? ⟨w.heap.size, 12, none⟩ = some (.string x.tn.tx) := (World.cell?_setCell_far _ _ _ _ (by show w1.heap.size ≠ w.heap.size; omega)).trans ((World.cell?_setCell_far _ _ _ _ (by show w1.heap.size ≠ w.heap.size; omega)).trans ((World.cell?_setCell_far _ _ _ _ (by show w1.heap.size ≠ w.heap.size; omega)).trans ((World.cell?_setCell_far _ _ _ _ (by show w1.heap.size ≠ w.heap.size; omega)).trans c2_12)))
    have c3_13 : ((((p2.setCell ⟨w1.heap.size, 0, none⟩ (.string ⟨#[111, 102, 102, 101, 114]⟩)).setCell ⟨w1.heap.size, 1, none⟩ (.func (.func 76) #[] #[])).setCell ⟨w1.heap.size, 2, none⟩ (.func (.func 77) #[] #[])).setCell ⟨w1.heap.size, 3, none⟩ (.func (.func 78) #[] #[])).cell? ⟨w.heap.size, 13, none⟩ = some (.bool x.tn.has) := (World.cell?_setCell_far _ _ _ _ (by show w1.heap.size ≠ w.heap.size; omega)).trans ((World.cell?_setCell_far _ _ _ _ (by show w1.heap.size ≠ w.heap.size; omega)).trans ((World.cell?_setCell_far _ _ _ _ (by show w1.heap.size ≠ w.heap.size; omega)).trans ((World.cell?_setCell_far _ _ _ _ (by show w1.heap.size ≠ w.heap.size; omega)).trans c2_13)))
    have c3_14 : ((((p2.setCell ⟨w1.heap.size, 0, none⟩ (.string ⟨#[111, 102, 102, 101, 114]⟩)).setCell ⟨w1.heap.size, 1, none⟩ (.func (.func 76) #[] #[])).setCell ⟨w1.heap.size, 2, none⟩ (.func (.func 77) #[] #[])).setCell ⟨w1.heap.size, 3, none⟩ (.func (.func 78) #[] #[])).cell? ⟨w.heap.size, 14, none⟩ = some (.string x.tn.nm) := (World.cell?_setCell_far _ _ _ _ (by show w1.heap.size ≠ w.heap.size; omega)).trans ((World.cell?_setCell_far _ _ _ _ (by show w1.heap.size ≠ w.heap.size; omega)).trans ((World.cell?_setCell_far _ _ _ _ (by show w1.heap.size ≠ w.heap.size; omega)).trans ((World.cell?_setCell_far _ _ _ _ (by show w1.heap.size ≠ w.heap.size; omega)).trans c2_14)))
    have c3_15 : ((((p2.setCell ⟨w1.heap.size, 0, none⟩ (.string ⟨#[111, 102, 102, 101, 114]⟩)).setCell ⟨w1.heap.size, 1, none⟩ (.func (.func 76) #[] #[])).setCell ⟨w1.heap.size, 2, none⟩ (.func (.func 77) #[] #[])).setCell ⟨w1.heap.size, 3, none⟩ (.func (.func 78) #[] #[])).cell? ⟨w.heap.size, 15, none⟩ = some (.int .i64 x.tn.st) := (World.cell?_setCell_far _ _ _ _ (by show w1.heap.size ≠ w.heap.size; omega)).trans ((World.cell?_setCell_far _ _ _ _ (by show w1.heap.size ≠ w.heap.size; omega)).trans ((World.cell?_setCell_far _ _ _ _ (by show w1.heap.size ≠ w.heap.size; omega)).trans ((World.cell?_setCell_far _ _ _ _ (by show w1.heap.size ≠ w.heap.size; omega)).trans c2_15)))
    have q0 : ((((p2.setCell ⟨w1.heap.size, 0, none⟩ (.string ⟨#[111, 102, 102, 101, 114]⟩)).setCell ⟨w1.heap.size, 1, none⟩ (.func (.func 76) #[] #[])).setCell ⟨w1.heap.size, 2, none⟩ (.func (.func 77) #[] #[])).setCell ⟨w1.heap.size, 3, none⟩ (.func (.func 78) #[] #[])).cell? ⟨w1.heap.size, 0, none⟩ = some (.string ⟨#[111, 102, 102, 101, 114]⟩) := by rw [World.cell?_setCell_other _ _ _ _ (adr_ne (by omega)), World.cell?_setCell_other _ _ _ _ (adr_ne (by omega)), World.cell?_setCell_other _ _ _ _ (adr_ne (by omega))]; exact World.cell?_setCell_same _ _ _ (by exact y0)
    have q1 : ((((p2.setCell ⟨w1.heap.size, 0, none⟩ (.string ⟨#[111, 102, 102, 101, 114]⟩)).setCell ⟨w1.heap.size, 1, none⟩ (.func (.func 76) #[] #[])).setCell ⟨w1.heap.size, 2, none⟩ (.func (.func 77) #[] #[])).setCell ⟨w1.heap.size, 3, none⟩ (.func (.func 78) #[] #[])).cell? ⟨w1.heap.size, 1, none⟩ = some (.func (.func 76) #[] #[]) := by rw [World.cell?_setCell_other _ _ _ _ (adr_ne (by omega)), World.cell?_setCell_other _ _ _ _ (adr_ne (by omega))]; exact World.cell?_setCell_same _ _ _ (by rw [World.cell?_setCell_other _ _ _ _ (adr_ne (by omega))]; exact y1)
    have q2 : ((((p2.setCell ⟨w1.heap.size, 0, none⟩ (.string ⟨#[111, 102, 102, 101, 114]⟩)).setCell ⟨w1.heap.size, 1, none⟩ (.func (.func 76) #[] #[])).setCell ⟨w1.heap.size, 2, none⟩ (.func (.func 77) #[] #[])).setCell ⟨w1.heap.size, 3, none⟩ (.func (.func 78) #[] #[])).cell? ⟨w1.heap.size, 2, none⟩ = some (.func (.func 77) #[] #[]) := by rw [World.cell?_setCell_other _ _ _ _ (adr_ne (by omega))]; exact World.cell?_setCell_same _ _ _ (by rw [World.cell?_setCell_other _ _ _ _ (adr_ne (by omega)), World.cell?_setCell_other _ _ _ _ (adr_ne (by omega))]; exact y2)
    have q3 : ((((p2.setCell ⟨w1.heap.size, 0, none⟩ (.string ⟨#[111, 102, 102, 101, 114]⟩)).setCell ⟨w1.heap.size, 1, none⟩ (.func (.func 76) #[] #[])).setCell ⟨w1.heap.size, 2, none⟩ (.func (.func 77) #[] #[])).setCell ⟨w1.heap.size, 3, none⟩ (.func (.func 78) #[] #[])).cell? ⟨w1.heap.size, 3, none⟩ = some (.func (.func 78) #[] #[]) := by exact World.cell?_setCell_same _ _ _ (by rw [World.cell?_setCell_other _ _ _ _ (adr_ne (by omega)), World.cell?_setCell_other _ _ _ _ (adr_ne (by omega)), World.cell?_setCell_other _ _ _ _ (adr_ne (by omega))]; exact y3)
    have HV : Hid (Below w1.heap.size w1 ((((p2.setCell ⟨w1.heap.size, 0, none⟩ (.string ⟨#[111, 102, 102, 101, 114]⟩)).setCell ⟨w1.heap.size, 1, none⟩ (.func (.func 76) #[] #[])).setCell ⟨w1.heap.size, 2, none⟩ (.func (.func 77) #[] #[])).setCell ⟨w1.heap.size, 3, none⟩ (.func (.func 78) #[] #[]))) := ((((HS1.out.trans (HS2.out.mono HS1.out.size)).setCell (by simp) _).setCell (by simp) _).setCell (by simp) _).setCell (by simp) _
    have hq : w1.heap.size < ((((p2.setCell ⟨w1.heap.size, 0, none⟩ (.string ⟨#[111, 102, 102, 101, 114]⟩)).setCell ⟨w1.heap.size, 1, none⟩ (.func (.func 76) #[] #[])).setCell ⟨w1.heap.size, 2, none⟩ (.func (.func 77) #[] #[])).setCell ⟨w1.heap.size, 3, none⟩ (.func (.func 78) #[] #[])).heap.size := by simp; omega
    have hz3 : w.heap.size < ((((p2.setCell ⟨w1.heap.size, 0, none⟩ (.string ⟨#[111, 102, 102, 101, 114]⟩)).setCell ⟨w1.heap.size, 1, none⟩ (.func (.func 76) #[] #[])).setCell ⟨w1.heap.size, 2, none⟩ (.func (.func 77) #[] #[])).setCell ⟨w1.heap.size, 3, none⟩ (.func (.func 78) #[] #[])).heap.size := by simp; omega
    clear HS1 HS2 y0 y1 y2 y3 yf0 yf1 yf2 yf3 c2_0 c2_1 c2_2 c2_3 c2_4 c2_5 c2_6 c2_7 c2_8 c2_9 c2_10 c2_11 c2_12 c2_13 c2_14 c2_15
    clear hHeld
    refine hK.out _ _ ?_ (fun hHeld => ?_)
    · ((try dsimp only); go_keep)
    clear hK K
    try simp only [Act.put, List.setIfInBounds_toArray, List.set_cons_zero, List.set_cons_succ]
    generalize ((((p2.setCell ⟨w1.heap.size, 0, none⟩ (.string ⟨#[111, 102, 102, 101, 114]⟩)).setCell ⟨w1.heap.size, 1, none⟩ (.func (.func 76) #[] #[])).setCell ⟨w1.heap.size, 2, none⟩ (.func (.func 77) #[] #[])).setCell ⟨w1.heap.size, 3, none⟩ (.func (.func 78) #[] #[])) = p3 at *
    obtain ⟨bk, hbk⟩ : ∃ bk, bk = w1.heap.size := ⟨_, rfl⟩
    rw [← hbk] at q0 q1 q2 q3 hq ⊢
    clear hbk
    refine wpAnyH_done (by kernel_rfl) ?_ _
    clear hHeld
    have HPV : Hid (Pow p3) := pow_below HP.out (hBw1.trans (HV.out.mono hBw1.size))
    have k1 : ¬ 9223372036854775807 < 5 + 1 + (ofL (offerW x)).size := by omega
    have k2 : ¬ 9223372036854775807 < 6 + (ofL (offerW x)).size := by omega
    go_wp2_with fail
    refine wp_region_held_drew (S := (fun u => u.cell? ⟨w.heap.size, 0, none⟩ = some (.int .i64 1) ∧ u.cell? ⟨w.heap.size, 1, none⟩ = some (.int .i64 x.to) ∧ u.cell? ⟨w.heap.size, 2, none⟩ = some (.int .i64 x.fr) ∧ u.cell? ⟨w.heap.size, 3, none⟩ = some (.int .i64 x.ep) ∧ u.cell? ⟨w.heap.size, 4, none⟩ = some (.int .i64 x.ed) ∧ u.cell? ⟨w.heap.size, 5, none⟩ = some (.string x.km.nm) ∧ u.cell? ⟨w.heap.size, 6, none⟩ = some (.string x.km.tl) ∧ u.cell? ⟨w.heap.size, 7, none⟩ = some (.string x.km.ar) ∧ u.cell? ⟨w.heap.size, 8, none⟩ = some (.slice ai x.ls.length ci) ∧ u.cell? ⟨w.heap.size, 9, none⟩ = some (.int .i64 x.ct) ∧ u.cell? ⟨w.heap.size, 10, none⟩ = some (.bool x.tn.over) ∧ u.cell? ⟨w.heap.size, 11, none⟩ = some (.int .i64 x.tn.cd) ∧ u.cell? ⟨w.heap.size, 12, none⟩ = some (.string x.tn.tx) ∧ u.cell? ⟨w.heap.size, 13, none⟩ = some (.bool x.tn.has) ∧ u.cell? ⟨w.heap.size, 14, none⟩ = some (.string x.tn.nm) ∧ u.cell? ⟨w.heap.size, 15, none⟩ = some (.int .i64 x.tn.st) ∧ u.cell? ⟨bk, 0, none⟩ = some (.string ⟨#[111, 102, 102, 101, 114]⟩) ∧ u.cell? ⟨bk, 1, none⟩ = some (.func (.func 76) #[] #[]) ∧ u.cell? ⟨bk, 2, none⟩ = some (.func (.func 77) #[] #[]) ∧ u.cell? ⟨bk, 3, none⟩ = some (.func (.func 78) #[] #[]))) (by kernel_rfl) ?_ (fun hHeld => ?_)
    · ((try dsimp only); go_keep)
    refine wpAnyH_take (i := 0) (oi := { dst := some 20, op := Op.fieldAddr 74 (Operand.tmp 5) 0, type := 0, pos := "l7_mail.go:41", after := #[], guard := none }) (v := ?_) rfl (by kernel_rfl) (by kernel_rfl) (by kernel_rfl) (fun _ _ _ h => h) (Or.inl ⟨by rfl, ?_⟩) (by assumption) ?_
    rotate_left
    · intro wq hSw
      (try dsimp only at hSw)
      go_simp
      try with_reducible rfl
    try simp only [Act.put, List.setIfInBounds_toArray, List.set_cons_zero, List.set_cons_succ]
    refine wpAnyH_take (i := 1) (oi := { dst := some 21, op := Op.load 9 (Operand.tmp 20), type := 9, pos := "l7_mail.go:41", after := #[{ on := 0, ground := Ground.data }], guard := none }) (v := ?_) rfl (by kernel_rfl) (by kernel_rfl) (by kernel_rfl) (fun _ _ _ h => h) (Or.inl ⟨by rfl, ?_⟩) (by assumption) ?_
    rotate_left
    · intro wq hSw
      (try dsimp only at hSw)
      go_simp
      try with_reducible rfl
    try simp only [Act.put, List.setIfInBounds_toArray, List.set_cons_zero, List.set_cons_succ]
    refine wpAnyH_take (i := 2) (oi := { dst := some 22, op := Op.binOp BinOp.add 9 (Operand.tmp 21) (Operand.const (Value.string { data := #[32] })) 9, type := 9, pos := "l7_mail.go:41", after := #[{ on := 1, ground := Ground.data }], guard := none }) (v := ?_) rfl (by kernel_rfl) (by kernel_rfl) (by kernel_rfl) (fun _ _ _ h => h) (Or.inl ⟨by rfl, ?_⟩) (by assumption) ?_
    rotate_left
    · intro wq hSw
      (try dsimp only at hSw)
      go_simp
      try with_reducible rfl
    try simp only [Act.put, List.setIfInBounds_toArray, List.set_cons_zero, List.set_cons_succ]
    refine wpAnyH_take (i := 3) (oi := { dst := some 23, op := Op.fieldAddr 74 (Operand.tmp 5) 2, type := 0, pos := "l7_mail.go:41", after := #[], guard := none }) (v := ?_) rfl (by kernel_rfl) (by kernel_rfl) (by kernel_rfl) (fun _ _ _ h => h) (Or.inl ⟨by rfl, ?_⟩) (by assumption) ?_
    rotate_left
    · intro wq hSw
      (try dsimp only at hSw)
      go_simp
      try with_reducible rfl
    try simp only [Act.put, List.setIfInBounds_toArray, List.set_cons_zero, List.set_cons_succ]
    refine wpAnyH_take (i := 4) (oi := { dst := some 24, op := Op.load 61 (Operand.tmp 23), type := 61, pos := "l7_mail.go:41", after := #[{ on := 3, ground := Ground.data }], guard := none }) (v := ?_) rfl (by kernel_rfl) (by kernel_rfl) (by kernel_rfl) (fun _ _ _ h => h) (Or.inl ⟨by rfl, ?_⟩) (by assumption) ?_
    rotate_left
    · intro wq hSw
      (try dsimp only at hSw)
      go_simp
      try with_reducible rfl
    try simp only [Act.put, List.setIfInBounds_toArray, List.set_cons_zero, List.set_cons_succ]
    refine wpAnyH_take (i := 5) (oi := { dst := some 25, op := Op.load 41 (Operand.tmp 2), type := 41, pos := "l7_mail.go:41", after := #[], guard := none }) (v := ?_) rfl (by kernel_rfl) (by kernel_rfl) (by kernel_rfl) (fun _ _ _ h => h) (Or.inl ⟨by rfl, ?_⟩) (by assumption) ?_
    rotate_left
    · intro wq hSw
      (try dsimp only at hSw)
      go_simp
      try with_reducible rfl
    try simp only [Act.put, List.setIfInBounds_toArray, List.set_cons_zero, List.set_cons_succ]
    refine wpAnyH_ready (rs := [6]) (by kernel_rfl) (by simp) ?_
    refine AllReadyH.cons (o := { dst := some 26, op := Op.call { callee := Callee.value (Operand.tmp 24), args := #[Operand.tmp 25], argTypes := #[41] }, type := 9, pos := "l7_mail.go:41", after := #[{ on := 4, ground := Ground.data }, { on := 5, ground := Ground.data }], guard := none }) rfl (fun K hK => ?_) AllReadyH.nil
    go_simp
    refine (c77 x 1 ai ci _ (pow_below HPV.out ((Below.refl _ _).drew)) r1 r2 r3 hom hol hss (lks_below HAT.out ((hBw1.trans (HV.out.mono hBw1.size)).drew)) zb zl).mono ?_
    rintro e p4 ⟨rfl, hb4⟩
    have HS4 : Hid (Below p3.heap.size p3 p4) := ((Below.refl _ _).drew).trans hb4
    clear hb4
    have c4_0 := (HS4.out.cell (p := ⟨w.heap.size, 0, none⟩) (by exact hz3)).trans c3_0
    have c4_1 := (HS4.out.cell (p := ⟨w.heap.size, 1, none⟩) (by exact hz3)).trans c3_1
    have c4_2 := (HS4.out.cell (p := ⟨w.heap.size, 2, none⟩) (by exact hz3)).trans c3_2
    have c4_3 := (HS4.out.cell (p := ⟨w.heap.size, 3, none⟩) (by exact hz3)).trans c3_3
    have c4_4 := (HS4.out.cell (p := ⟨w.heap.size, 4, none⟩) (by exact hz3)).trans c3_4
    have c4_5 := (HS4.out.cell (p := ⟨w.heap.size, 5, none⟩) (by exact hz3)).trans c3_5
    have c4_6 := (HS4.out.cell (p := ⟨w.heap.size, 6, none⟩) (by exact hz3)).trans c3_6
    have c4_7 := (HS4.out.cell (p := ⟨w.heap.size, 7, none⟩) (by exact hz3)).trans c3_7
    have c4_8 := (HS4.out.cell (p := ⟨w.heap.size, 8, none⟩) (by exact hz3)).trans c3_8
    have c4_9 := (HS4.out.cell (p := ⟨w.heap.size, 9, none⟩) (by exact hz3)).trans c3_9
    have c4_10 := (HS4.out.cell (p := ⟨w.heap.size, 10, none⟩) (by exact hz3)).trans c3_10
    have c4_11 := (HS4.out.cell (p := ⟨w.heap.size, 11, none⟩) (by exact hz3)).trans c3_11
    have c4_12 := (HS4.out.cell (p := ⟨w.heap.size, 12, none⟩) (by exact hz3)).trans c3_12
    have c4_13 := (HS4.out.cell (p := ⟨w.heap.size, 13, none⟩) (by exact hz3)).trans c3_13
    have c4_14 := (HS4.out.cell (p := ⟨w.heap.size, 14, none⟩) (by exact hz3)).trans c3_14
    have c4_15 := (HS4.out.cell (p := ⟨w.heap.size, 15, none⟩) (by exact hz3)).trans c3_15
    have u0 := (HS4.out.cell (p := ⟨bk, 0, none⟩) (by exact hq)).trans q0
    have u1 := (HS4.out.cell (p := ⟨bk, 1, none⟩) (by exact hq)).trans q1
    have u2 := (HS4.out.cell (p := ⟨bk, 2, none⟩) (by exact hq)).trans q2
    have u3 := (HS4.out.cell (p := ⟨bk, 3, none⟩) (by exact hq)).trans q3

    go_wp2_with fail
    clear hHeld
    refine hK.out _ _ ?_ (fun hHeld => ?_)
    · ((try dsimp only); go_keep)
    clear hK K
    try simp only [Act.put, List.setIfInBounds_toArray, List.set_cons_zero, List.set_cons_succ]
    refine wpAnyH_take (i := 7) (oi := { dst := some 27, op := Op.binOp BinOp.add 9 (Operand.tmp 22) (Operand.tmp 26) 9, type := 9, pos := "l7_mail.go:41", after := #[{ on := 2, ground := Ground.data }, { on := 6, ground := Ground.data }], guard := none }) (v := ?_) rfl (by kernel_rfl) (by kernel_rfl) (by kernel_rfl) (fun _ _ _ h => h) (Or.inl ⟨by rfl, ?_⟩) (by assumption) ?_
    rotate_left
    · intro wq hSw
      (try dsimp only at hSw)
      go_simp
      try with_reducible rfl
    try simp only [Act.put, List.setIfInBounds_toArray, List.set_cons_zero, List.set_cons_succ]
    refine wpAnyH_take (i := 8) (oi := { dst := some 6, op := Op.assign (Operand.tmp 27), type := 9, pos := "l7_mail.go:41", after := #[{ on := 7, ground := Ground.data }, { on := 6, ground := Ground.chain }, { on := 0, ground := Ground.phase }, { on := 1, ground := Ground.phase }, { on := 2, ground := Ground.phase }, { on := 3, ground := Ground.phase }, { on := 4, ground := Ground.phase }, { on := 5, ground := Ground.phase }, { on := 6, ground := Ground.phase }, { on := 7, ground := Ground.phase }], guard := none }) (v := ?_) rfl (by kernel_rfl) (by kernel_rfl) (by kernel_rfl) (fun _ _ _ h => h) (Or.inl ⟨by rfl, ?_⟩) (by assumption) ?_
    rotate_left
    · intro wq hSw
      (try dsimp only at hSw)
      go_simp
      try with_reducible rfl
    try simp only [Act.put, List.setIfInBounds_toArray, List.set_cons_zero, List.set_cons_succ]
    refine wpAnyH_done (by kernel_rfl) ?_ _
    clear hHeld
    have hB4 : Below w.heap.size w p4 := (hBw1.trans (HV.out.mono hBw1.size)).trans (HS4.out.mono (hBw1.trans (HV.out.mono hBw1.size)).size)
    rw [HE.out]
    go_wp2_with fail
    refine (c41 (ofL (offerL x)) key _ (by omega) (by omega)).mono ?_
    rintro e p5 ⟨rfl, hb5⟩
    have hB5 : Below w.heap.size w p5 := hB4.trans (hb5.mono hB4.size)
    clear hb5
    have k3 : ¬ 9223372036854775807 < (tagS (ofL (offerL x)) key).size + (ofL (offerL x)).size := by omega
    go_wp2
    go_ret
    exact ⟨rfl, hB5⟩
end Go.Proofs.YtdcgjdgpiogdaaaGreatDoor
