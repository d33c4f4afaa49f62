import Derived.Test.YtdcgjdgpiogdaaaGreatDoorG16
import Derived.Shelf.Strings.BuilderK
namespace Go.Proofs.YtdcgjdgpiogdaaaGreatDoor
open Go.RowKit
/-- What a here's line is behind its word. -/
def hereW (x : G16) : List UInt8 := dec x.fr ++ [10]
set_option maxHeartbeats 2000000 in
set_option maxRecDepth 100000 in
theorem c83 (x : G16) (kd : Int) (ai : Option Addr) (ci : Nat) (w : World) (hp : Pow w) (h0 : 0 ≤ x.fr) (h1 : x.fr ≤ 1000) :
    Calls Tryz.prog 83 #[.agg #[.int .i64 kd, .int .i64 x.to, .int .i64 x.fr, .int .i64 x.ep, .int .i64 x.ed, .string x.km.nm, .string x.km.tl, .string x.km.ar, .slice ai x.ls.length ci, .int .i64 x.ct, .bool x.tn.over, .int .i64 x.tn.cd, .string x.tn.tx, .bool x.tn.has, .string x.tn.nm, .int .i64 x.tn.st]] w fun e w' => e = .returned (.string (ofL (hereW x))) ∧ Below w.heap.size w w' := by
  have z1 := dec_size x.fr h0 (by omega)
  have HE : Hid (ofL (dec x.fr) ++ ⟨#[10]⟩ = ofL (hereW x)) := by
    show ofL (dec x.fr) ++ ofL [10] = _
    rw [cat_ofL]; rfl
  have HJ : Hid (Lib.join ([x.fr].map dec) [32] = dec x.fr) := by simp [Lib.join, Hid]
  have hB0 : ∀ o p, Below w.heap.size w ((w.alloc o).alloc p) := fun o p => ((Below.refl _ _).alloc (Nat.le_refl _) _).alloc (by simp) _
  have k1 : ¬ 9223372036854775807 < (ofL (dec x.fr)).size + 1 := by omega
  have k1' : ¬ 9223372036854775807 ≤ (ofL (dec x.fr)).size := by omega
  go_enter Tryz.func83, Tryz.ntmps83
  go_wp2_with fail
  refine (c99 (w.heap.size + 1) 0 1 [x.fr] _ (pow_below hp (hB0 _ _)) ?cl (by simp) ?rg (by simp) (by simp)).mono ?_
  case cl =>
    intro j n hj
    match j with
    | 0 => simp at hj; subst hj; simp [go_sem]
    | j + 1 => simp at hj
  case rg => intro n hn; simp at hn; subst hn; exact ⟨h0, h1⟩
  rw [HJ.out]
  rintro e w1 ⟨rfl, hb1⟩
  have HB1 : Hid (Below w.heap.size w w1) := (hB0 _ _).trans (hb1.mono (by simp; omega))
  clear hb1
  go_wp2
  go_ret
  exact ⟨by rw [← HE.out]; rfl, HB1.out⟩
end Go.Proofs.YtdcgjdgpiogdaaaGreatDoor
namespace Go.Proofs.YtdcgjdgpiogdaaaGreatDoor
open Go.RowKit Go.Shelf
theorem c121k (B b : Nat) (bs : List Value) (s : ByteArray) (w : World) (h : Lib.IsBuilderF 153 5 B b bs w) (hlen : bs.length + s.size ≤ 140737488355328) (hBw : B ≤ w.heap.size) :
    Calls Tryz.prog 121 #[.pointer (some ⟨b, 0, none⟩), .string s] w fun e w' => e = .returned (.tuple #[.int .i64 s.size, .nilIface]) ∧ (Lib.BuilderAtF 153 5 B b (.pointer (some ⟨b, 0, none⟩)) (bs ++ Lib.strCells s) w' ∧ Below B w w' ∧ Lib.OthersKept 5 (some b) w w') :=
  Any.Builder_WriteString_k (ρ := Tryz.lays156_ren) { Tryz.lays156 with } Tryz.Builder_Extra_156 B b bs s w h hlen hBw
theorem c122k (B b : Nat) (l : List UInt8) (w : World) (h : Lib.IsBuilderF 153 5 B b (Lib.byteCells l) w) (hBw : B ≤ w.heap.size) :
    Calls Tryz.prog 122 #[.pointer (some ⟨b, 0, none⟩)] w fun e w' => e = .returned (.string ⟨l.toArray⟩) ∧ (Lib.IsBuilderF 153 5 B b (Lib.byteCells l) w' ∧ Below B w w' ∧ Lib.OthersKept 5 (some b) w w') := Any.Builder_String_any_k Tryz.lays169 Tryz.Builder_Extra_169 B b l w h hBw
theorem isF_below {B b : Nat} {bs : List Value} {u v : World} (h : Lib.IsBuilderF 153 5 B b bs u) (hb : Below u.heap.size u v) : Lib.IsBuilderF 153 5 B b bs v := by
  have key : ∀ p, Lib.BuilderAtF 153 5 B b p bs u → Lib.BuilderAtF 153 5 B b p bs v := by
    intro p hp
    obtain ⟨hB, r, hr, hown, hne⟩ := hp
    have hlt : b < u.heap.size := by
      rcases Nat.lt_or_ge b u.heap.size with h' | h'
      · exact h'
      · rw [Array.getElem?_eq_none h'] at hr; cases hr
    exact ⟨hB, r, (hb.block b hlt).trans hr, hown.kept (row := none) ⟨hb.os, hb.tape, hb.output, hb.size, fun k hk _ => hb.block k hk⟩ (Classical.em _), hne⟩
  exact h.elim (fun x => .inl (key _ x)) (fun x => .inr (key _ x))
theorem lookW_size (b : Bool) : (lookW b).size = 3 := by cases b <;> rfl
theorem lookW_eq (x : L4) : lookW x.has ++ ⟨#[32]⟩ ++ x.nm ++ ⟨#[32]⟩ ++ ofL (resL x.cd x.tx) ++ ⟨#[10]⟩ = ofL (lookL x) := by
  have e : lookW x.has ++ ⟨#[32]⟩ = wordA x.has := by cases x.has <;> rfl
  rw [e]; exact lookL_eq x
theorem strCells_ofL (l : List UInt8) : Lib.strCells (ofL l) = Lib.byteCells l := rfl
set_option maxHeartbeats 8000000 in
set_option maxRecDepth 100000 in
theorem c101 (a : Option Addr) (cap : Nat) (ls : List L4) (w : World) (hp : Pow w) (hok : LksOk ls) (hs : ∀ i, (ls.getD i l4z).le 1048576) (hat : LksAt w a ls) :
    Calls Tryz.prog 101 #[.slice a ls.length cap] w fun e w' => e = .returned (.string (ofL (looksL ls))) ∧ Below w.heap.size w w' := by
  obtain ⟨b, off, hc⟩ := lks_some hat
  have HC : Hid (ls = [] ∨ (a = some ⟨b, off, none⟩ ∧ b < w.heap.size ∧ ∀ i, i < ls.length → w.cell? ⟨b, off + i * 4, none⟩ = some (.bool (ls.getD i l4z).has) ∧ w.cell? ⟨b, off + i * 4 + 1, none⟩ = some (.string (ls.getD i l4z).nm) ∧ w.cell? ⟨b, off + i * 4 + 2, none⟩ = some (.int .i64 (ls.getD i l4z).cd) ∧ w.cell? ⟨b, off + i * 4 + 3, none⟩ = some (.string (ls.getD i l4z).tx))) := hc
  have HS : Hid (∀ i, (ls.getD i l4z).le 1048576) := hs
  have HOK : Hid (LksOk ls) := hok
  have HP : Hid (Pow w) := hp
  have hl : ls.length ≤ 15 := hok.1
  have HF : Hid (Lib.IsBuilderF 153 5 w.heap.size w.heap.size [] (w.alloc (.cells #[.pointer none, .slice none 0 0] 153))) := Lib.IsBuilderF.of (Lib.fresh_isBuilder 153 5 w)
  clear hc hat hs hok hp
  go_enter Tryz.func101, Tryz.ntmps101
  go_wp2_with fail
  go_loopw [8] (fun vi wr => ∃ k : Nat, k ≤ ls.length ∧ vi = .int .i64 k ∧ Hid (Lib.IsBuilderF 153 5 w.heap.size w.heap.size (Lib.byteCells (looksL (ls.take k))) wr) ∧ (looksL (ls.take k)).length ≤ k * 110000000 ∧ Below w.heap.size w wr ∧ w.heap.size + 1 ≤ wr.heap.size) (fun vi _ => ls.length - (intOf vi).toNat)
  case atStart => exact ⟨0, Nat.zero_le _, rfl, HF, by simp [looksL], (Below.refl _ _).alloc (Nat.le_refl _) _, by simp⟩
  case round =>
    obtain ⟨k, hk, rfl, hF, hlen, hb, hz⟩ := hrel
    by_cases hlt : k < ls.length
    · rcases HC.out with hss | ⟨ha, hbw, hcell⟩
      · rw [hss] at hlt; exact absurd hlt (Nat.not_lt_zero _)
      subst ha
      obtain ⟨n0, n1, n2, n3⟩ := hcell k hlt
      have g0 := (hb.cell (p := ⟨b, off + k * 4, none⟩) hbw).trans n0
      have g1 := (hb.cell (p := ⟨b, off + k * 4 + 1, none⟩) hbw).trans n1
      have g2 := (hb.cell (p := ⟨b, off + k * 4 + 2, none⟩) hbw).trans n2
      have g3 := (hb.cell (p := ⟨b, off + k * 4 + 3, none⟩) hbw).trans n3
      have hxs := HS.out k
      have hcd := lk_code (HOK.out.2 k hlt)
      have HSN : Hid (looksL (ls.take (k + 1)) = looksL (ls.take k) ++ lookL (ls.getD k l4z)) := looks_snoc ls k hlt
      generalize ls.getD k l4z = x at *
      generalize looksL (ls.take k) = l at *
      have hki : (k : Int) < (ls.length : Int) := by omega
      have zr := res_size x.cd x.tx hcd.1 (by omega)
      have s1 := hxs.1
      have s2 := hxs.2
      have w3' := lookW_size x.has
      have HLK : Hid ((lookL x).length ≤ 110000000) := by
        have := congrArg ByteArray.size (lookW_eq x)
        rw [ofL_size] at this
        simp only [ByteArray.size_append] at this
        have e1 : (⟨#[32]⟩ : ByteArray).size = 1 := rfl
        have e2 : (⟨#[10]⟩ : ByteArray).size = 1 := rfl
        show (lookL x).length ≤ 110000000
        omega
      have k1 : ¬ 9223372036854775807 < 4 + x.nm.size := by omega
      have k2 : ¬ 9223372036854775807 < 4 + x.nm.size + 1 := by omega
      have k2' : ¬ 9223372036854775807 ≤ 4 + x.nm.size := by omega
      have k3 : ¬ 9223372036854775807 < 4 + x.nm.size + 1 + (ofL (resL x.cd x.tx)).size := by omega
      have k4 : ¬ 9223372036854775807 < 4 + x.nm.size + 1 + (ofL (resL x.cd x.tx)).size + 1 := by omega
      have k4' : ¬ 9223372036854775807 ≤ 4 + x.nm.size + 1 + (ofL (resL x.cd x.tx)).size := by omega
      have e32 : (⟨#[32]⟩ : ByteArray).size = 1 := rfl
      have e10 : (⟨#[10]⟩ : ByteArray).size = 1 := rfl
      have hk15 : k ≤ 14 := by omega
      have HPr : Hid (Pow wr) := pow_below HP.out hb
      clear hcell
      go_wp2_with fail
      have HWV : Hid (Below wr.heap.size wr (wr.alloc (.cells #[.bool x.has, .string x.nm, .int .i64 x.cd, .string x.tx] 87))) := (Below.refl _ _).alloc (Nat.le_refl _) _
      have HPV : Hid (Pow (wr.alloc (.cells #[.bool x.has, .string x.nm, .int .i64 x.cd, .string x.tx] 87))) := pow_below HPr.out HWV.out
      have HFV : Hid (Lib.IsBuilderF 153 5 w.heap.size w.heap.size (Lib.byteCells l) (wr.alloc (.cells #[.bool x.has, .string x.nm, .int .i64 x.cd, .string x.tx] 87))) := hF.out.alloc _
      have HVB : Hid ((wr.alloc (.cells #[.bool x.has, .string x.nm, .int .i64 x.cd, .string x.tx] 87)).heap[wr.heap.size]? = some (.cells #[.bool x.has, .string x.nm, .int .i64 x.cd, .string x.tx] 87)) := by
        show (wr.heap.push _)[wr.heap.size]? = _
        exact Array.getElem?_push_size
      have hzV : wr.heap.size < (wr.alloc (.cells #[.bool x.has, .string x.nm, .int .i64 x.cd, .string x.tx] 87)).heap.size := by simp
      have a0 : (wr.alloc (.cells #[.bool x.has, .string x.nm, .int .i64 x.cd, .string x.tx] 87)).cell? ⟨wr.heap.size, 0, none⟩ = some (.bool x.has) := by simp [go_sem]
      have a1 : (wr.alloc (.cells #[.bool x.has, .string x.nm, .int .i64 x.cd, .string x.tx] 87)).cell? ⟨wr.heap.size, 1, none⟩ = some (.string x.nm) := by simp [go_sem]
      have a2 : (wr.alloc (.cells #[.bool x.has, .string x.nm, .int .i64 x.cd, .string x.tx] 87)).cell? ⟨wr.heap.size, 2, none⟩ = some (.int .i64 x.cd) := by simp [go_sem]
      have a3 : (wr.alloc (.cells #[.bool x.has, .string x.nm, .int .i64 x.cd, .string x.tx] 87)).cell? ⟨wr.heap.size, 3, none⟩ = some (.string x.tx) := by simp [go_sem]
      generalize (wr.alloc (.cells #[.bool x.has, .string x.nm, .int .i64 x.cd, .string x.tx] 87)) = V at *
      refine wp_region_held_drew (S := (fun u => u.cell? ⟨wr.heap.size, 0, none⟩ = some (.bool x.has) ∧ u.cell? ⟨wr.heap.size, 1, none⟩ = some (.string x.nm) ∧ u.cell? ⟨wr.heap.size, 2, none⟩ = some (.int .i64 x.cd) ∧ u.cell? ⟨wr.heap.size, 3, none⟩ = some (.string x.tx))) (by kernel_rfl) ?_ (fun hHeld => ?_)
      · ((try dsimp only); go_keep)
      refine wpAnyH_take (i := 0) (oi := { dst := some 12, op := Op.fieldAddr 87 (Operand.tmp 5) 0, type := 0, pos := "l6_log.go:280", after := #[], guard := none }) (v := ?_) rfl (by kernel_rfl) (by kernel_rfl) (by kernel_rfl) (fun _ _ _ h => h) (Or.inl ⟨by rfl, ?_⟩) (by assumption) ?_
      rotate_left
      · intro wq hSw
        (try dsimp only at hSw)
        go_simp
        try with_reducible rfl
      try simp only [Act.put, List.setIfInBounds_toArray, List.set_cons_zero, List.set_cons_succ]
      refine wpAnyH_take (i := 1) (oi := { dst := some 13, op := Op.load 4 (Operand.tmp 12), type := 4, pos := "l6_log.go:280", after := #[{ on := 0, ground := Ground.data }], guard := none }) (v := ?_) rfl (by kernel_rfl) (by kernel_rfl) (by kernel_rfl) (fun _ _ _ h => h) (Or.inl ⟨by rfl, ?_⟩) (by assumption) ?_
      rotate_left
      · intro wq hSw
        (try dsimp only at hSw)
        go_simp
        try with_reducible rfl
      try simp only [Act.put, List.setIfInBounds_toArray, List.set_cons_zero, List.set_cons_succ]
      refine wpAnyH_take (i := 4) (oi := { dst := some 16, op := Op.fieldAddr 87 (Operand.tmp 5) 1, type := 0, pos := "l6_log.go:280", after := #[], guard := none }) (v := ?_) rfl (by kernel_rfl) (by kernel_rfl) (by kernel_rfl) (fun _ _ _ h => h) (Or.inl ⟨by rfl, ?_⟩) (by assumption) ?_
      rotate_left
      · intro wq hSw
        (try dsimp only at hSw)
        go_simp
        try with_reducible rfl
      try simp only [Act.put, List.setIfInBounds_toArray, List.set_cons_zero, List.set_cons_succ]
      refine wpAnyH_take (i := 5) (oi := { dst := some 17, op := Op.load 9 (Operand.tmp 16), type := 9, pos := "l6_log.go:280", after := #[{ on := 4, ground := Ground.data }], guard := none }) (v := ?_) rfl (by kernel_rfl) (by kernel_rfl) (by kernel_rfl) (fun _ _ _ h => h) (Or.inl ⟨by rfl, ?_⟩) (by assumption) ?_
      rotate_left
      · intro wq hSw
        (try dsimp only at hSw)
        go_simp
        try with_reducible rfl
      try simp only [Act.put, List.setIfInBounds_toArray, List.set_cons_zero, List.set_cons_succ]
      refine wpAnyH_take (i := 8) (oi := { dst := some 20, op := Op.fieldAddr 87 (Operand.tmp 5) 2, type := 0, pos := "l6_log.go:280", after := #[], guard := none }) (v := ?_) rfl (by kernel_rfl) (by kernel_rfl) (by kernel_rfl) (fun _ _ _ h => h) (Or.inl ⟨by rfl, ?_⟩) (by assumption) ?_
      rotate_left
      · intro wq hSw
        (try dsimp only at hSw)
        go_simp
        try with_reducible rfl
      try simp only [Act.put, List.setIfInBounds_toArray, List.set_cons_zero, List.set_cons_succ]
      refine wpAnyH_take (i := 9) (oi := { dst := some 21, op := Op.load 37 (Operand.tmp 20), type := 37, pos := "l6_log.go:280", after := #[{ on := 8, ground := Ground.data }], guard := none }) (v := ?_) rfl (by kernel_rfl) (by kernel_rfl) (by kernel_rfl) (fun _ _ _ h => h) (Or.inl ⟨by rfl, ?_⟩) (by assumption) ?_
      rotate_left
      · intro wq hSw
        (try dsimp only at hSw)
        go_simp
        try with_reducible rfl
      try simp only [Act.put, List.setIfInBounds_toArray, List.set_cons_zero, List.set_cons_succ]
      refine wpAnyH_ready (rs := [2]) (by kernel_rfl) (by simp) ?_
      refine AllReadyH.cons (o := { dst := some 14, op := Op.call { callee := Callee.value (Operand.func 109), args := #[Operand.tmp 13], argTypes := #[4] }, type := 9, pos := "l6_log.go:280", after := #[{ on := 1, ground := Ground.data }], guard := none }) rfl (fun K hK => ?_) AllReadyH.nil
      go_simp
      refine (c109 x.has _).mono ?_
      rintro e w1 ⟨rfl, hw1⟩
      have HB1 : Hid (Below V.heap.size V w1) := by rw [hw1]; exact (Below.refl _ _).drew
      have b0 := (HB1.out.cell (p := ⟨wr.heap.size, 0, none⟩) (by exact hzV)).trans a0
      have b1 := (HB1.out.cell (p := ⟨wr.heap.size, 1, none⟩) (by exact hzV)).trans a1
      have b2 := (HB1.out.cell (p := ⟨wr.heap.size, 2, none⟩) (by exact hzV)).trans a2
      have b3 := (HB1.out.cell (p := ⟨wr.heap.size, 3, none⟩) (by exact hzV)).trans a3
      have hz1 : wr.heap.size < w1.heap.size := Nat.lt_of_lt_of_le hzV HB1.out.size
      clear hw1
      go_wp2_with fail
      clear hHeld
      refine hK.out _ _ ?_ (fun hHeld => ?_)
      · ((try dsimp only); go_keep)
      clear hK K
      try simp only [Act.put, List.setIfInBounds_toArray, List.set_cons_zero, List.set_cons_succ]
      refine wpAnyH_take (i := 3) (oi := { dst := some 15, op := Op.binOp BinOp.add 9 (Operand.tmp 14) (Operand.const (Value.string { data := #[32] })) 9, type := 9, pos := "l6_log.go:280", after := #[{ on := 2, ground := Ground.data }], guard := none }) (v := ?_) rfl (by kernel_rfl) (by kernel_rfl) (by kernel_rfl) (fun _ _ _ h => h) (Or.inl ⟨by rfl, ?_⟩) (by assumption) ?_
      rotate_left
      · intro wq hSw
        (try dsimp only at hSw)
        go_simp
        try with_reducible rfl
      try simp only [Act.put, List.setIfInBounds_toArray, List.set_cons_zero, List.set_cons_succ]
      refine wpAnyH_take (i := 6) (oi := { dst := some 18, op := Op.binOp BinOp.add 9 (Operand.tmp 15) (Operand.tmp 17) 9, type := 9, pos := "l6_log.go:280", after := #[{ on := 3, ground := Ground.data }, { on := 5, ground := Ground.data }], guard := none }) (v := ?_) rfl (by kernel_rfl) (by kernel_rfl) (by kernel_rfl) (fun _ _ _ h => h) (Or.inl ⟨by rfl, ?_⟩) (by assumption) ?_
      rotate_left
      · intro wq hSw
        (try dsimp only at hSw)
        go_simp
        try with_reducible rfl
      try simp only [Act.put, List.setIfInBounds_toArray, List.set_cons_zero, List.set_cons_succ]
      refine wpAnyH_take (i := 7) (oi := { dst := some 19, op := Op.binOp BinOp.add 9 (Operand.tmp 18) (Operand.const (Value.string { data := #[32] })) 9, type := 9, pos := "l6_log.go:280", after := #[{ on := 6, ground := Ground.data }], guard := none }) (v := ?_) rfl (by kernel_rfl) (by kernel_rfl) (by kernel_rfl) (fun _ _ _ h => h) (Or.inl ⟨by rfl, ?_⟩) (by assumption) ?_
      rotate_left
      · intro wq hSw
        (try dsimp only at hSw)
        go_simp
        try with_reducible rfl
      try simp only [Act.put, List.setIfInBounds_toArray, List.set_cons_zero, List.set_cons_succ]
      refine wpAnyH_ready (rs := [10]) (by kernel_rfl) (by simp) ?_
      refine AllReadyH.cons (o := { dst := some 22, op := Op.call { callee := Callee.value (Operand.func 108), args := #[Operand.tmp 21], argTypes := #[37] }, type := 9, pos := "l6_log.go:280", after := #[{ on := 9, ground := Ground.data }, { on := 2, ground := Ground.chain }], guard := none }) rfl (fun K hK => ?_) AllReadyH.nil
      go_simp
      refine (c108 x.cd x.tx _ (pow_below HPV.out HB1.out) hcd.1 (by omega) (by omega)).mono ?_
      rintro e w2 ⟨rfl, hb2⟩
      have HB2 : Hid (Below w1.heap.size w1 w2) := hb2
      have d0 := (HB2.out.cell (p := ⟨wr.heap.size, 0, none⟩) (by exact hz1)).trans b0
      have d1 := (HB2.out.cell (p := ⟨wr.heap.size, 1, none⟩) (by exact hz1)).trans b1
      have d2 := (HB2.out.cell (p := ⟨wr.heap.size, 2, none⟩) (by exact hz1)).trans b2
      have d3 := (HB2.out.cell (p := ⟨wr.heap.size, 3, none⟩) (by exact hz1)).trans b3
      have HBV2 : Hid (Below V.heap.size V w2) := HB1.out.trans (HB2.out.mono HB1.out.size)
      have HH2 : Hid (w2.heap[wr.heap.size]? = some (.cells #[.bool x.has, .string x.nm, .int .i64 x.cd, .string x.tx] 87)) := (HBV2.out.block _ hzV).trans HVB.out
      have HF2 : Hid (Lib.IsBuilderF 153 5 w.heap.size w.heap.size (Lib.byteCells l) w2) := isF_below HFV.out HBV2.out
      have hz2 : wr.heap.size < w2.heap.size := Nat.lt_of_lt_of_le hz1 HB2.out.size
      clear hb2
      go_wp2_with fail
      clear hHeld
      refine hK.out _ _ ?_ (fun hHeld => ?_)
      · ((try dsimp only); go_keep)
      clear hK K
      try simp only [Act.put, List.setIfInBounds_toArray, List.set_cons_zero, List.set_cons_succ]
      refine wpAnyH_take (i := 11) (oi := { dst := some 23, op := Op.binOp BinOp.add 9 (Operand.tmp 19) (Operand.tmp 22) 9, type := 9, pos := "l6_log.go:280", after := #[{ on := 7, ground := Ground.data }, { on := 10, ground := Ground.data }], guard := none }) (v := ?_) rfl (by kernel_rfl) (by kernel_rfl) (by kernel_rfl) (fun _ _ _ h => h) (Or.inl ⟨by rfl, ?_⟩) (by assumption) ?_
      rotate_left
      · intro wq hSw
        (try dsimp only at hSw)
        go_simp
        try with_reducible rfl
      try simp only [Act.put, List.setIfInBounds_toArray, List.set_cons_zero, List.set_cons_succ]
      refine wpAnyH_take (i := 12) (oi := { dst := some 24, op := Op.binOp BinOp.add 9 (Operand.tmp 23) (Operand.const (Value.string { data := #[10] })) 9, type := 9, pos := "l6_log.go:280", after := #[{ on := 11, ground := Ground.data }], guard := none }) (v := ?_) rfl (by kernel_rfl) (by kernel_rfl) (by kernel_rfl) (fun _ _ _ h => h) (Or.inl ⟨by rfl, ?_⟩) (by assumption) ?_
      rotate_left
      · intro wq hSw
        (try dsimp only at hSw)
        go_simp
        try with_reducible rfl
      try simp only [Act.put, List.setIfInBounds_toArray, List.set_cons_zero, List.set_cons_succ]
      refine wpAnyH_ready (rs := [13]) (by kernel_rfl) (by simp) ?_
      refine AllReadyH.cons (o := { dst := some 25, op := Op.call { callee := Callee.value (Operand.func 121), args := #[Operand.tmp 3, Operand.tmp 24], argTypes := #[153, 9] }, type := 156, pos := "l6_log.go:280", after := #[{ on := 12, ground := Ground.data }, { on := 10, ground := Ground.chain }], guard := none }) rfl (fun K hK => ?_) AllReadyH.nil
      go_simp
      refine (c121k w.heap.size w.heap.size (Lib.byteCells l) _ _ HF2.out (by rw [cells_len]; simp only [ByteArray.size_append]; omega) (by omega)).mono ?_
      rintro e w3 ⟨rfl, h3, hb3, ho3⟩
      have HF3 : Hid (Lib.IsBuilderF 153 5 w.heap.size w.heap.size (Lib.byteCells l ++ Lib.strCells (lookW x.has ++ ⟨#[32]⟩ ++ x.nm ++ ⟨#[32]⟩ ++ ofL (resL x.cd x.tx) ++ ⟨#[10]⟩)) w3) := .inr h3
      have HB3 : Hid (Below w.heap.size w w3) := ((hb.trans ((HWV.out.trans (HBV2.out.mono (Nat.le_of_lt hzV))).mono hb.size))).trans hb3
      have HH3 : w3.heap[wr.heap.size]? = some (.cells #[.bool x.has, .string x.nm, .int .i64 x.cd, .string x.tx] 87) := ho3 _ _ HH2.out (by intro h; have := Option.some.inj h; omega) (by intro c fz h; cases h)
      have f0 : w3.cell? ⟨wr.heap.size, 0, none⟩ = some (.bool x.has) := by rw [Lib.cell_of_heap HH3]; rfl
      have f1 : w3.cell? ⟨wr.heap.size, 1, none⟩ = some (.string x.nm) := by rw [Lib.cell_of_heap HH3]; rfl
      have f2 : w3.cell? ⟨wr.heap.size, 2, none⟩ = some (.int .i64 x.cd) := by rw [Lib.cell_of_heap HH3]; rfl
      have f3 : w3.cell? ⟨wr.heap.size, 3, none⟩ = some (.string x.tx) := by rw [Lib.cell_of_heap HH3]; rfl
      have hz3 : w2.heap.size ≤ w3.heap.size := hb3.size
      clear h3 hb3 ho3 HH3
      go_wp2_with fail
      clear hHeld
      refine hK.out _ _ ?_ (fun hHeld => ?_)
      · ((try dsimp only); go_keep)
      clear hK K
      try simp only [Act.put, List.setIfInBounds_toArray, List.set_cons_zero, List.set_cons_succ]
      refine wpAnyH_done (by kernel_rfl) ?_ _
      clear hHeld
      go_wp2
      go_roundw
      case rel =>
        refine ⟨k + 1, by omega, by go_num, ?_, by rw [HSN.out, List.length_append]; have := HLK.out; omega, HB3.out, by omega⟩
        rw [HSN.out, cells_snoc, ← strCells_ofL (lookL x), ← lookW_eq]
        exact HF3
      case measure => simp [intOf]; omega
    · have HK : Hid (ls.take k = ls) := List.take_of_length_le (by omega)
      have HFE : Hid (Lib.IsBuilderF 153 5 w.heap.size w.heap.size (Lib.byteCells (looksL ls)) wr) := by have h := hF.out; rw [HK.out] at h; exact h
      have hki : ¬ (k : Int) < (ls.length : Int) := by omega
      clear hF hlen
      go_wp2_with fail
      refine (c122k w.heap.size w.heap.size (looksL ls) _ HFE.out (by omega)).mono ?_
      rintro e w2 ⟨rfl, _, hb2, _⟩
      go_wp2
      go_ret
      exact ⟨rfl, hb.trans hb2⟩
end Go.Proofs.YtdcgjdgpiogdaaaGreatDoor
