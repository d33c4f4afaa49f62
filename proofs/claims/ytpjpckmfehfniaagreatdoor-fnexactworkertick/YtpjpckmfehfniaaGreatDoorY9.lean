import Derived.Test.YtpjpckmfehfniaaGreatDoorY8
import Derived.Lib.AppendStr
namespace Go.Proofs.YtpjpckmfehfniaaGreatDoor.M
open Go.RowKit
theorem step_apps {P : Program} {ops : Array Oper} {o : Oper} {a : Act} {w : World} {K : Act → World → Prop} {Q : Exit → Act → World → Prop} {E : Prop}
 (hg : o.guard = none) (s x : Operand) (t u : TypeId) (hop : o.op = Op.call { callee := Callee.builtin Builtin.append, args := #[s, x], argTypes := #[t, u] })
 (base : Nat) (e : TypeId) (i : TypeInfo) (h1 : P.underlying t = some (.slice e)) (hu : P.underlying u = some .string) (h2 : P.info? e = some i) (h3 : i.zero = some (.int .u8 0)) (h4 : i.size = 1) (h5 : i.bytes = 1)
 (v : Value) (n : Nat) (xs : List Value) (hs : a.eval s = v) (hown : w.ownsRow base e 1 v n xs) (str : ByteArray) (hx : a.eval x = .string str)
 (b1 : n + str.size ≤ maxLen) (b2 : n + str.size ≤ 140737488355328) (hb : base ≤ w.heap.size)
 (hK : ∀ v' w', w'.ownsRow base e 1 v' (n + str.size) (xs ++ Lib.strCells str) → w.grownBy w' v.ownBlock → (v' = .slice none 0 0 ↔ v = .slice none 0 0 ∧ str.size = 0) → K (a.put o.dst v') w') :
 if Region.wanted o (yielded ops a.tmps) = true then Oper.wp P o a w K Q else E := by
 have hw : Region.wanted o (yielded ops a.tmps) = true := by simp [Region.wanted, hg]
 rw [if_pos hw]
 obtain ⟨v', w', hrun, r1, r2, r3⟩ := Lib.run_append_own_string (P := P) w base t u o.type e i h1 hu h2 h3 h4 h5 v n xs hown str b1 b2 hb
 unfold Oper.wp
 simp [execOp, hop, resolve, invoke, builtin, hs, hx, hrun, Result.andThen]
 exact hK v' w' r1 r2 r3
theorem conv_own' {w : World} {base : Nat} {v : Value} {n : Nat} {l : List UInt8} (h : w.ownsRow base 5 1 v n (Lib.byteCells l)) (hne : v ≠ .slice none 0 0) : (convert 60 9 v).run Tryz.prog w = .ok (.string ⟨l.toArray⟩) w := by
 have h' := h
 obtain ⟨h1, h2⟩ := h
 rcases h2 with ⟨h0, _⟩ | ⟨g, cp, cur, rfl, hg, hh, _⟩
 · exact absurd h0 hne
 · have hl : l.length = n := by rw [cells_len] at h1; omega
   have := run_convert_bytes_arg (P := Tryz.prog) w 60 5 Tryz.underlying60 Tryz.underlying5 g 0 n cp (l.map fun b => (b.toNat : Int)) (by simpa using hl) (fun i hi => by
    rw [Nat.zero_add, h'.cellAt i (by omega)]
    have hi' : i < l.length := by omega
    simp [Lib.byteCells, hi']) 9 Tryz.underlying9
   rw [this]
   have e : l.map ((fun n : Int => UInt8.ofNat n.toNat) ∘ fun b => (b.toNat : Int)) = l := (List.map_congr_left (fun b _ => by simp)).trans (List.map_id l)
   simp only [strOfNums, List.map_map, e]
theorem vr_code {c : Int} {l : List UInt8} (h : vr c l = true) : 0 ≤ c ∧ c ≤ 7 := by
 unfold vr at h
 by_cases h1 : c = 0 ∨ c = 1
 · omega
 · rw [if_neg h1] at h
   by_cases h2 : c = 2
   · omega
   · rw [if_neg h2] at h
     by_cases h3 : c = 3
     · omega
     · rw [if_neg h3] at h
       by_cases h4 : c = 4 ∨ c = 5 ∨ c = 7
       · omega
       · rw [if_neg h4] at h; cases h
theorem lk_code {x : L4} (h : LkOk x) : 0 ≤ x.cd ∧ x.cd ≤ 7 := by
 rcases h.2 with ⟨_, ⟨h, _⟩ | ⟨h, _⟩⟩ | ⟨_, h⟩
 · omega
 · omega
 · exact vr_code h
def wordA (b : Bool) : ByteArray := if b = true then ⟨#[104, 97, 115, 32]⟩ else ⟨#[97, 115, 107, 32]⟩
def lookL (x : L4) : List UInt8 := (wordA x.has).data.toList ++ x.nm.data.toList ++ [32] ++ resL x.cd x.tx ++ [10]
theorem lookL_eq (x : L4) : wordA x.has ++ x.nm ++ ⟨#[32]⟩ ++ ofL (resL x.cd x.tx) ++ ⟨#[10]⟩ = ofL (lookL x) := by
 show ofL (wordA x.has).data.toList ++ ofL x.nm.data.toList ++ ofL [32] ++ ofL (resL x.cd x.tx) ++ ofL [10] = _
 rw [cat_ofL, cat_ofL, cat_ofL, cat_ofL]; rfl
theorem res_size (c : Int) (t : ByteArray) (h0 : 0 ≤ c) (h1 : c ≤ 1000) : (ofL (resL c t)).size ≤ 100000004 + 3 * t.size := by
 have a := dec_size c h0 (by omega)
 have b := quote_size t
 rw [ofL_size] at a b ⊢
 unfold resL
 simp only [List.length_append, List.length_cons, List.length_nil]
 omega
theorem word_size (b : Bool) : (wordA b).size = 4 := by cases b <;> rfl
def looksL (ls : List L4) : List UInt8 := ls.flatMap lookL
theorem looks_snoc (ls : List L4) (k : Nat) (h : k < ls.length) : looksL (ls.take (k + 1)) = looksL (ls.take k) ++ lookL (ls.getD k l4z) := by
 unfold looksL
 have e : ls.take (k + 1) = ls.take k ++ [ls.getD k l4z] := by
  rw [List.take_add_one]
  simp [List.getD, List.getElem?_eq_getElem h]
 rw [e, List.flatMap_append]
 simp
set_option maxHeartbeats 8000000 in
set_option maxRecDepth 100000 in
theorem c112 (a : Option Addr) (cap : Nat) (ls : List L4) (w : World) (hok : LksOk ls) (hs : ∀ i, (ls.getD i l4z).le 1048576) (hat : LksAt w a ls) :
 Calls Tryz.prog 112 #[.slice a ls.length cap] w fun e w' => e = .returned (.string (ofL (looksL ls))) ∧ Below w.heap.size w w' := by
 obtain ⟨i0, hi, hz0, hz1, hz2⟩ := info_parts info5
 obtain ⟨b, off, hc⟩ := lks_some hat
 have HC : Hid (ls = [] ∨ (a = some ⟨b, off, none⟩ ∧ b < w.heap.size ∧ ∀ i, i < ls.length → w.cell? ⟨b, off + i * 4, none⟩ = some (.bool (ls.getD i l4z).has) ∧ w.cell? ⟨b, off + i * 4 + 1, none⟩ = some (.string (ls.getD i l4z).nm) ∧ w.cell? ⟨b, off + i * 4 + 2, none⟩ = some (.int .i64 (ls.getD i l4z).cd) ∧ w.cell? ⟨b, off + i * 4 + 3, none⟩ = some (.string (ls.getD i l4z).tx))) := hc
 have HS : Hid (∀ i, (ls.getD i l4z).le 1048576) := hs
 have HOK : Hid (LksOk ls) := hok
 have hl : ls.length ≤ 15 := hok.1
 clear hc hat hs hok
 go_enter Tryz.func112, Tryz.ntmps112
 go_wp2_with fail
 go_loopw [3, 4] (fun v vi wr => ∃ k : Nat, k ≤ ls.length ∧ vi = .int .i64 k ∧ Hid (wr.ownsRow w.heap.size 5 1 v (looksL (ls.take k)).length (Lib.byteCells (looksL (ls.take k)))) ∧ Hid (v ≠ .slice none 0 0) ∧ (looksL (ls.take k)).length ≤ k * 110000000 ∧ Below w.heap.size w wr) (fun _ vi _ => ls.length - (intOf vi).toNat)
 case atStart => exact ⟨0, Nat.zero_le _, rfl, World.ownsRow_lit _ #[] 0 (Nat.le_refl _) (by unfold maxLen; omega) rfl, (fun e => by cases e), by simp [looksL], (Below.refl _ _).alloc (Nat.le_refl _) _⟩
 case round =>
  obtain ⟨k, hk, rfl, hown, hne, hlen, hb⟩ := hrel
  by_cases hlt : k < ls.length
  · rcases HC.out with hss | ⟨ha, hbw, hcell⟩
    · rw [hss] at hlt; exact absurd hlt (Nat.not_lt_zero _)
    subst ha
    obtain ⟨n0, n1, n2, n3⟩ := hcell k hlt
    have g0 := (hb.cell (p := ⟨b, off + k * 4, none⟩) hbw).trans n0
    have g1 := (hb.cell (p := ⟨b, off + k * 4 + 1, none⟩) hbw).trans n1
    have g2 := (hb.cell (p := ⟨b, off + k * 4 + 2, none⟩) hbw).trans n2
    have g3 := (hb.cell (p := ⟨b, off + k * 4 + 3, none⟩) hbw).trans n3
    have hbr : b < wr.heap.size := Nat.lt_of_lt_of_le hbw hb.size
    have hxs := HS.out k
    have hcd := lk_code (HOK.out.2 k hlt)
    have HSN : Hid (looksL (ls.take (k + 1)) = looksL (ls.take k) ++ lookL (ls.getD k l4z)) := looks_snoc ls k hlt
    generalize ls.getD k l4z = x at *
    generalize looksL (ls.take k) = l at *
    have hki : (k : Int) < (ls.length : Int) := by omega
    have zr := res_size x.cd x.tx hcd.1 (by omega)
    have s1 := hxs.1
    have s2 := hxs.2
    have HLK : Hid ((lookL x).length ≤ 110000000) := by
     have := congrArg ByteArray.size (lookL_eq x)
     rw [ofL_size] at this
     simp only [ByteArray.size_append] at this
     have w4 := word_size x.has
     have e1 : (⟨#[32]⟩ : ByteArray).size = 1 := rfl
     have e2 : (⟨#[10]⟩ : ByteArray).size = 1 := rfl
     show (lookL x).length ≤ 110000000
     omega
    have k1 : ¬ 9223372036854775807 < 4 + x.nm.size := by omega
    have k2 : ¬ 9223372036854775807 < 4 + x.nm.size + 1 := by omega
    have k2' : ¬ 9223372036854775807 ≤ 4 + x.nm.size := by omega
    have k3 : ¬ 9223372036854775807 < 4 + x.nm.size + 1 + (ofL (resL x.cd x.tx)).size := by omega
    have k4 : ¬ 9223372036854775807 < 4 + x.nm.size + 1 + (ofL (resL x.cd x.tx)).size + 1 := by omega
    have k4' : ¬ 9223372036854775807 ≤ 4 + x.nm.size + 1 + (ofL (resL x.cd x.tx)).size := by omega
    have e32 : (⟨#[32]⟩ : ByteArray).size = 1 := rfl
    have e10 : (⟨#[10]⟩ : ByteArray).size = 1 := rfl
    have hk15 : k ≤ 14 := by omega
    clear hcell
    cases hh : x.has
    · rw [hh] at g0 n0
      have HW : Hid (wordA x.has = ⟨#[97, 115, 107, 32]⟩) := by rw [hh]; rfl
      have HE : Hid (⟨#[97, 115, 107, 32]⟩ ++ x.nm ++ ⟨#[32]⟩ ++ ofL (resL x.cd x.tx) ++ ⟨#[10]⟩ = ofL (lookL x)) := by rw [← HW.out]; exact lookL_eq x
      have e4 : (⟨#[97, 115, 107, 32]⟩ : ByteArray).size = 4 := rfl
      go_wp2_with fail
      refine wp_region_held_drew (S := (fun u => u.cell? ⟨b, off + k * 4, none⟩ = some (.bool false) ∧ u.cell? ⟨b, off + k * 4 + 1, none⟩ = some (.string x.nm) ∧ u.cell? ⟨b, off + k * 4 + 2, none⟩ = some (.int .i64 x.cd) ∧ u.cell? ⟨b, off + k * 4 + 3, none⟩ = some (.string x.tx))) (by kernel_rfl) ?_ (fun hHeld => ?_)
      · ((try dsimp only); go_keep)
      refine wpAnyH_take (i := 0) (oi := { dst := some 18, op := Op.move (Operand.tmp 3), type := 60, pos := "l6_log.go:16", after := #[], guard := none }) (v := ?_) rfl (by kernel_rfl) (by kernel_rfl) (by kernel_rfl) (fun _ _ _ h => h) (Or.inl ⟨by rfl, ?_⟩) (by assumption) ?_
      rotate_left
      · intro wq hSw
        (try dsimp only at hSw)
        go_simp
        try with_reducible rfl
      try simp only [Act.put, List.setIfInBounds_toArray, List.set_cons_zero, List.set_cons_succ]
      refine wpAnyH_take (i := 1) (oi := { dst := some 19, op := Op.move (Operand.tmp 5), type := 9, pos := "l6_log.go:16", after := #[], guard := none }) (v := ?_) rfl (by kernel_rfl) (by kernel_rfl) (by kernel_rfl) (fun _ _ _ h => h) (Or.inl ⟨by rfl, ?_⟩) (by assumption) ?_
      rotate_left
      · intro wq hSw
        (try dsimp only at hSw)
        go_simp
        try with_reducible rfl
      try simp only [Act.put, List.setIfInBounds_toArray, List.set_cons_zero, List.set_cons_succ]
      refine wpAnyH_take (i := 2) (oi := { dst := some 20, op := Op.move (Operand.tmp 0), type := 34, pos := "l6_log.go:16", after := #[], guard := none }) (v := ?_) rfl (by kernel_rfl) (by kernel_rfl) (by kernel_rfl) (fun _ _ _ h => h) (Or.inl ⟨by rfl, ?_⟩) (by assumption) ?_
      rotate_left
      · intro wq hSw
        (try dsimp only at hSw)
        go_simp
        try with_reducible rfl
      try simp only [Act.put, List.setIfInBounds_toArray, List.set_cons_zero, List.set_cons_succ]
      refine wpAnyH_take (i := 3) (oi := { dst := some 21, op := Op.move (Operand.tmp 4), type := 3, pos := "l6_log.go:16", after := #[], guard := none }) (v := ?_) rfl (by kernel_rfl) (by kernel_rfl) (by kernel_rfl) (fun _ _ _ h => h) (Or.inl ⟨by rfl, ?_⟩) (by assumption) ?_
      rotate_left
      · intro wq hSw
        (try dsimp only at hSw)
        go_simp
        try with_reducible rfl
      try simp only [Act.put, List.setIfInBounds_toArray, List.set_cons_zero, List.set_cons_succ]
      refine wpAnyH_take (i := 4) (oi := { dst := some 22, op := Op.indexAddr 34 (Operand.tmp 20) (Operand.tmp 21), type := 0, pos := "l6_log.go:16", after := #[{ on := 2, ground := Ground.data }, { on := 3, ground := Ground.data }], guard := none }) (v := ?_) rfl (by kernel_rfl) (by kernel_rfl) (by kernel_rfl) (fun _ _ _ h => h) (Or.inl ⟨by rfl, ?_⟩) (by assumption) ?_
      rotate_left
      · intro wq hSw
        (try dsimp only at hSw)
        go_simp
        try with_reducible rfl
      try simp only [Act.put, List.setIfInBounds_toArray, List.set_cons_zero, List.set_cons_succ]
      refine wpAnyH_take (i := 5) (oi := { dst := some 23, op := Op.fieldAddr 76 (Operand.tmp 22) 1, type := 0, pos := "l6_log.go:16", after := #[{ on := 4, ground := Ground.data }], guard := none }) (v := ?_) rfl (by kernel_rfl) (by kernel_rfl) (by kernel_rfl) (fun _ _ _ h => h) (Or.inl ⟨by rfl, ?_⟩) (by assumption) ?_
      rotate_left
      · intro wq hSw
        (try dsimp only at hSw)
        go_simp
        try with_reducible rfl
      try simp only [Act.put, List.setIfInBounds_toArray, List.set_cons_zero, List.set_cons_succ]
      refine wpAnyH_take (i := 6) (oi := { dst := some 24, op := Op.load 9 (Operand.tmp 23), type := 9, pos := "l6_log.go:16", after := #[{ on := 5, ground := Ground.data }], guard := none }) (v := ?_) rfl (by kernel_rfl) (by kernel_rfl) (by kernel_rfl) (fun _ _ _ h => h) (Or.inl ⟨by rfl, ?_⟩) (by assumption) ?_
      rotate_left
      · intro wq hSw
        (try dsimp only at hSw)
        go_simp
        try with_reducible rfl
      try simp only [Act.put, List.setIfInBounds_toArray, List.set_cons_zero, List.set_cons_succ]
      refine wpAnyH_take (i := 7) (oi := { dst := some 25, op := Op.binOp BinOp.add 9 (Operand.tmp 19) (Operand.tmp 24) 9, type := 9, pos := "l6_log.go:16", after := #[{ on := 1, ground := Ground.data }, { on := 6, ground := Ground.data }], guard := none }) (v := ?_) rfl (by kernel_rfl) (by kernel_rfl) (by kernel_rfl) (fun _ _ _ h => h) (Or.inl ⟨by rfl, ?_⟩) (by assumption) ?_
      rotate_left
      · intro wq hSw
        (try dsimp only at hSw)
        go_simp
        try with_reducible rfl
      try simp only [Act.put, List.setIfInBounds_toArray, List.set_cons_zero, List.set_cons_succ]
      refine wpAnyH_take (i := 8) (oi := { dst := some 26, op := Op.binOp BinOp.add 9 (Operand.tmp 25) (Operand.const (Value.string { data := #[32] })) 9, type := 9, pos := "l6_log.go:16", after := #[{ on := 7, ground := Ground.data }], guard := none }) (v := ?_) rfl (by kernel_rfl) (by kernel_rfl) (by kernel_rfl) (fun _ _ _ h => h) (Or.inl ⟨by rfl, ?_⟩) (by assumption) ?_
      rotate_left
      · intro wq hSw
        (try dsimp only at hSw)
        go_simp
        try with_reducible rfl
      try simp only [Act.put, List.setIfInBounds_toArray, List.set_cons_zero, List.set_cons_succ]
      refine wpAnyH_take (i := 9) (oi := { dst := some 27, op := Op.move (Operand.tmp 0), type := 34, pos := "l6_log.go:16", after := #[], guard := none }) (v := ?_) rfl (by kernel_rfl) (by kernel_rfl) (by kernel_rfl) (fun _ _ _ h => h) (Or.inl ⟨by rfl, ?_⟩) (by assumption) ?_
      rotate_left
      · intro wq hSw
        (try dsimp only at hSw)
        go_simp
        try with_reducible rfl
      try simp only [Act.put, List.setIfInBounds_toArray, List.set_cons_zero, List.set_cons_succ]
      refine wpAnyH_take (i := 10) (oi := { dst := some 28, op := Op.move (Operand.tmp 4), type := 3, pos := "l6_log.go:16", after := #[], guard := none }) (v := ?_) rfl (by kernel_rfl) (by kernel_rfl) (by kernel_rfl) (fun _ _ _ h => h) (Or.inl ⟨by rfl, ?_⟩) (by assumption) ?_
      rotate_left
      · intro wq hSw
        (try dsimp only at hSw)
        go_simp
        try with_reducible rfl
      try simp only [Act.put, List.setIfInBounds_toArray, List.set_cons_zero, List.set_cons_succ]
      refine wpAnyH_take (i := 11) (oi := { dst := some 29, op := Op.indexAddr 34 (Operand.tmp 27) (Operand.tmp 28), type := 0, pos := "l6_log.go:16", after := #[{ on := 9, ground := Ground.data }, { on := 10, ground := Ground.data }], guard := none }) (v := ?_) rfl (by kernel_rfl) (by kernel_rfl) (by kernel_rfl) (fun _ _ _ h => h) (Or.inl ⟨by rfl, ?_⟩) (by assumption) ?_
      rotate_left
      · intro wq hSw
        (try dsimp only at hSw)
        go_simp
        try with_reducible rfl
      try simp only [Act.put, List.setIfInBounds_toArray, List.set_cons_zero, List.set_cons_succ]
      refine wpAnyH_take (i := 12) (oi := { dst := some 30, op := Op.fieldAddr 76 (Operand.tmp 29) 2, type := 0, pos := "l6_log.go:16", after := #[{ on := 11, ground := Ground.data }], guard := none }) (v := ?_) rfl (by kernel_rfl) (by kernel_rfl) (by kernel_rfl) (fun _ _ _ h => h) (Or.inl ⟨by rfl, ?_⟩) (by assumption) ?_
      rotate_left
      · intro wq hSw
        (try dsimp only at hSw)
        go_simp
        try with_reducible rfl
      try simp only [Act.put, List.setIfInBounds_toArray, List.set_cons_zero, List.set_cons_succ]
      refine wpAnyH_take (i := 13) (oi := { dst := some 31, op := Op.load 28 (Operand.tmp 30), type := 28, pos := "l6_log.go:16", after := #[{ on := 12, ground := Ground.data }], guard := none }) (v := ?_) rfl (by kernel_rfl) (by kernel_rfl) (by kernel_rfl) (fun _ _ _ h => h) (Or.inl ⟨by rfl, ?_⟩) (by assumption) ?_
      rotate_left
      · intro wq hSw
        (try dsimp only at hSw)
        go_simp
        try with_reducible rfl
      try simp only [Act.put, List.setIfInBounds_toArray, List.set_cons_zero, List.set_cons_succ]
      refine wpAnyH_ready (rs := [14]) (by kernel_rfl) (by simp) ?_
      refine AllReadyH.cons (o := { dst := some 32, op := Op.call { callee := Callee.value (Operand.func 114), args := #[Operand.tmp 31], argTypes := #[28] }, type := 9, pos := "l6_log.go:16", after := #[{ on := 13, ground := Ground.data }], guard := none }) rfl (fun K hK => ?_) AllReadyH.nil
      go_simp
      refine (c114 x.cd x.tx _ hcd.1 (by omega) (by have := hxs.2; omega)).mono ?_
      rintro e w2 ⟨rfl, hb2⟩
      have HB2 : Hid (Below wr.heap.size wr w2) := ((Below.refl _ _).drew).trans hb2
      have b0 := (HB2.out.cell (p := ⟨b, off + k * 4, none⟩) (by exact hbr)).trans g0
      have b1 := (HB2.out.cell (p := ⟨b, off + k * 4 + 1, none⟩) (by exact hbr)).trans g1
      have b2 := (HB2.out.cell (p := ⟨b, off + k * 4 + 2, none⟩) (by exact hbr)).trans g2
      have b3 := (HB2.out.cell (p := ⟨b, off + k * 4 + 3, none⟩) (by exact hbr)).trans g3
      clear hb2
      go_wp2_with fail
      clear hHeld
      refine hK.out _ _ ?_ (fun hHeld => ?_)
      · ((try dsimp only); go_keep)
      clear hK K
      try simp only [Act.put, List.setIfInBounds_toArray, List.set_cons_zero, List.set_cons_succ]
      refine wpAnyH_take (i := 15) (oi := { dst := some 33, op := Op.binOp BinOp.add 9 (Operand.tmp 26) (Operand.tmp 32) 9, type := 9, pos := "l6_log.go:16", after := #[{ on := 8, ground := Ground.data }, { on := 14, ground := Ground.data }], guard := none }) (v := ?_) rfl (by kernel_rfl) (by kernel_rfl) (by kernel_rfl) (fun _ _ _ h => h) (Or.inl ⟨by rfl, ?_⟩) (by assumption) ?_
      rotate_left
      · intro wq hSw
        (try dsimp only at hSw)
        go_simp
        try with_reducible rfl
      try simp only [Act.put, List.setIfInBounds_toArray, List.set_cons_zero, List.set_cons_succ]
      refine wpAnyH_take (i := 16) (oi := { dst := some 34, op := Op.binOp BinOp.add 9 (Operand.tmp 33) (Operand.const (Value.string { data := #[10] })) 9, type := 9, pos := "l6_log.go:16", after := #[{ on := 15, ground := Ground.data }], guard := none }) (v := ?_) rfl (by kernel_rfl) (by kernel_rfl) (by kernel_rfl) (fun _ _ _ h => h) (Or.inl ⟨by rfl, ?_⟩) (by assumption) ?_
      rotate_left
      · intro wq hSw
        (try dsimp only at hSw)
        go_simp
        try with_reducible rfl
      try simp only [Act.put, List.setIfInBounds_toArray, List.set_cons_zero, List.set_cons_succ]
      refine wpAnyH_ready (rs := [17]) (by kernel_rfl) (by simp) ?_
      refine AllReadyH.cons (o := { dst := some 35, op := Op.call { callee := Callee.builtin Builtin.append, args := #[Operand.tmp 18, Operand.tmp 34], argTypes := #[60, 9] }, type := 60, pos := "l6_log.go:16", after := #[{ on := 0, ground := Ground.data }, { on := 16, ground := Ground.data }, { on := 14, ground := Ground.chain }], guard := none }) rfl (fun K hK => ?_) AllReadyH.nil
      refine step_apps rfl (.tmp 18) (.tmp 34) 60 9 rfl w.heap.size 5 i0 Tryz.underlying60 Tryz.underlying9 hi hz0 hz1 hz2 _ _ _ rfl (ownsRow_below hown.out HB2.out) _ rfl (by simp only [ByteArray.size_append]; unfold maxLen; omega) (by simp only [ByteArray.size_append]; omega) (by have h1 := HB2.out.size; have h2 := hb.size; omega) ?_
      intro v' w3 hown' hgrow hnil
      have hB3 : Below w.heap.size w w3 := (hb.trans (HB2.out.mono hb.size)).grown hgrow (by have h1 := HB2.out.size; have h2 := hb.size; omega) (fun j hj => (hown.out.lt j hj).1)
      have m0 := (hB3.cell (p := ⟨b, off + k * 4, none⟩) hbw).trans n0
      have m1 := (hB3.cell (p := ⟨b, off + k * 4 + 1, none⟩) hbw).trans n1
      have m2 := (hB3.cell (p := ⟨b, off + k * 4 + 2, none⟩) hbw).trans n2
      have m3 := (hB3.cell (p := ⟨b, off + k * 4 + 3, none⟩) hbw).trans n3
      clear hHeld
      refine hK.out _ _ ?_ (fun hHeld => ?_)
      · ((try dsimp only); go_keep)
      clear hK K
      try simp only [Act.put, List.setIfInBounds_toArray, List.set_cons_zero, List.set_cons_succ]
      refine wpAnyH_take (i := 18) (oi := { dst := some 3, op := Op.assign (Operand.tmp 35), type := 60, pos := "l6_log.go:16", after := #[{ on := 17, ground := Ground.data }, { on := 17, ground := Ground.chain }, { on := 0, ground := Ground.phase }, { on := 1, ground := Ground.phase }, { on := 2, ground := Ground.phase }, { on := 3, ground := Ground.phase }, { on := 4, ground := Ground.phase }, { on := 5, ground := Ground.phase }, { on := 6, ground := Ground.phase }, { on := 7, ground := Ground.phase }, { on := 8, ground := Ground.phase }, { on := 9, ground := Ground.phase }, { on := 10, ground := Ground.phase }, { on := 11, ground := Ground.phase }, { on := 12, ground := Ground.phase }, { on := 13, ground := Ground.phase }, { on := 14, ground := Ground.phase }, { on := 15, ground := Ground.phase }, { on := 16, ground := Ground.phase }, { on := 17, ground := Ground.phase }], guard := none }) (v := ?_) rfl (by kernel_rfl) (by kernel_rfl) (by kernel_rfl) (fun _ _ _ h => h) (Or.inl ⟨by rfl, ?_⟩) (by assumption) ?_
      rotate_left
      · intro wq hSw
        (try dsimp only at hSw)
        go_simp
        try with_reducible rfl
      try simp only [Act.put, List.setIfInBounds_toArray, List.set_cons_zero, List.set_cons_succ]
      refine wpAnyH_done (by kernel_rfl) ?_ _
      have HF : Hid (ByteArray.size _ = _ ∧ _) := ⟨congrArg ByteArray.size HE.out, HE.out⟩
      clear hHeld
      go_wp2
      go_roundw
      case rel =>
       refine ⟨k + 1, by omega, by go_num, ?_, fun e => hne.out (hnil.1 e).1, by rw [HSN.out, List.length_append]; have := HLK.out; omega, hB3⟩
       rw [HSN.out, cells_snoc, List.length_append]
       have hq := hown'
       rw [HE.out] at hq
       rw [ofL_size] at hq
       exact hq
      case measure => simp [intOf]; omega
    · rw [hh] at g0 n0
      have HW : Hid (wordA x.has = ⟨#[104, 97, 115, 32]⟩) := by rw [hh]; rfl
      have HE : Hid (⟨#[104, 97, 115, 32]⟩ ++ x.nm ++ ⟨#[32]⟩ ++ ofL (resL x.cd x.tx) ++ ⟨#[10]⟩ = ofL (lookL x)) := by rw [← HW.out]; exact lookL_eq x
      have e4 : (⟨#[104, 97, 115, 32]⟩ : ByteArray).size = 4 := rfl
      go_wp2_with fail
      refine wp_region_held_drew (S := (fun u => u.cell? ⟨b, off + k * 4, none⟩ = some (.bool true) ∧ u.cell? ⟨b, off + k * 4 + 1, none⟩ = some (.string x.nm) ∧ u.cell? ⟨b, off + k * 4 + 2, none⟩ = some (.int .i64 x.cd) ∧ u.cell? ⟨b, off + k * 4 + 3, none⟩ = some (.string x.tx))) (by kernel_rfl) ?_ (fun hHeld => ?_)
      · ((try dsimp only); go_keep)
      refine wpAnyH_take (i := 0) (oi := { dst := some 18, op := Op.move (Operand.tmp 3), type := 60, pos := "l6_log.go:16", after := #[], guard := none }) (v := ?_) rfl (by kernel_rfl) (by kernel_rfl) (by kernel_rfl) (fun _ _ _ h => h) (Or.inl ⟨by rfl, ?_⟩) (by assumption) ?_
      rotate_left
      · intro wq hSw
        (try dsimp only at hSw)
        go_simp
        try with_reducible rfl
      try simp only [Act.put, List.setIfInBounds_toArray, List.set_cons_zero, List.set_cons_succ]
      refine wpAnyH_take (i := 1) (oi := { dst := some 19, op := Op.move (Operand.tmp 5), type := 9, pos := "l6_log.go:16", after := #[], guard := none }) (v := ?_) rfl (by kernel_rfl) (by kernel_rfl) (by kernel_rfl) (fun _ _ _ h => h) (Or.inl ⟨by rfl, ?_⟩) (by assumption) ?_
      rotate_left
      · intro wq hSw
        (try dsimp only at hSw)
        go_simp
        try with_reducible rfl
      try simp only [Act.put, List.setIfInBounds_toArray, List.set_cons_zero, List.set_cons_succ]
      refine wpAnyH_take (i := 2) (oi := { dst := some 20, op := Op.move (Operand.tmp 0), type := 34, pos := "l6_log.go:16", after := #[], guard := none }) (v := ?_) rfl (by kernel_rfl) (by kernel_rfl) (by kernel_rfl) (fun _ _ _ h => h) (Or.inl ⟨by rfl, ?_⟩) (by assumption) ?_
      rotate_left
      · intro wq hSw
        (try dsimp only at hSw)
        go_simp
        try with_reducible rfl
      try simp only [Act.put, List.setIfInBounds_toArray, List.set_cons_zero, List.set_cons_succ]
      refine wpAnyH_take (i := 3) (oi := { dst := some 21, op := Op.move (Operand.tmp 4), type := 3, pos := "l6_log.go:16", after := #[], guard := none }) (v := ?_) rfl (by kernel_rfl) (by kernel_rfl) (by kernel_rfl) (fun _ _ _ h => h) (Or.inl ⟨by rfl, ?_⟩) (by assumption) ?_
      rotate_left
      · intro wq hSw
        (try dsimp only at hSw)
        go_simp
        try with_reducible rfl
      try simp only [Act.put, List.setIfInBounds_toArray, List.set_cons_zero, List.set_cons_succ]
      refine wpAnyH_take (i := 4) (oi := { dst := some 22, op := Op.indexAddr 34 (Operand.tmp 20) (Operand.tmp 21), type := 0, pos := "l6_log.go:16", after := #[{ on := 2, ground := Ground.data }, { on := 3, ground := Ground.data }], guard := none }) (v := ?_) rfl (by kernel_rfl) (by kernel_rfl) (by kernel_rfl) (fun _ _ _ h => h) (Or.inl ⟨by rfl, ?_⟩) (by assumption) ?_
      rotate_left
      · intro wq hSw
        (try dsimp only at hSw)
        go_simp
        try with_reducible rfl
      try simp only [Act.put, List.setIfInBounds_toArray, List.set_cons_zero, List.set_cons_succ]
      refine wpAnyH_take (i := 5) (oi := { dst := some 23, op := Op.fieldAddr 76 (Operand.tmp 22) 1, type := 0, pos := "l6_log.go:16", after := #[{ on := 4, ground := Ground.data }], guard := none }) (v := ?_) rfl (by kernel_rfl) (by kernel_rfl) (by kernel_rfl) (fun _ _ _ h => h) (Or.inl ⟨by rfl, ?_⟩) (by assumption) ?_
      rotate_left
      · intro wq hSw
        (try dsimp only at hSw)
        go_simp
        try with_reducible rfl
      try simp only [Act.put, List.setIfInBounds_toArray, List.set_cons_zero, List.set_cons_succ]
      refine wpAnyH_take (i := 6) (oi := { dst := some 24, op := Op.load 9 (Operand.tmp 23), type := 9, pos := "l6_log.go:16", after := #[{ on := 5, ground := Ground.data }], guard := none }) (v := ?_) rfl (by kernel_rfl) (by kernel_rfl) (by kernel_rfl) (fun _ _ _ h => h) (Or.inl ⟨by rfl, ?_⟩) (by assumption) ?_
      rotate_left
      · intro wq hSw
        (try dsimp only at hSw)
        go_simp
        try with_reducible rfl
      try simp only [Act.put, List.setIfInBounds_toArray, List.set_cons_zero, List.set_cons_succ]
      refine wpAnyH_take (i := 7) (oi := { dst := some 25, op := Op.binOp BinOp.add 9 (Operand.tmp 19) (Operand.tmp 24) 9, type := 9, pos := "l6_log.go:16", after := #[{ on := 1, ground := Ground.data }, { on := 6, ground := Ground.data }], guard := none }) (v := ?_) rfl (by kernel_rfl) (by kernel_rfl) (by kernel_rfl) (fun _ _ _ h => h) (Or.inl ⟨by rfl, ?_⟩) (by assumption) ?_
      rotate_left
      · intro wq hSw
        (try dsimp only at hSw)
        go_simp
        try with_reducible rfl
      try simp only [Act.put, List.setIfInBounds_toArray, List.set_cons_zero, List.set_cons_succ]
      refine wpAnyH_take (i := 8) (oi := { dst := some 26, op := Op.binOp BinOp.add 9 (Operand.tmp 25) (Operand.const (Value.string { data := #[32] })) 9, type := 9, pos := "l6_log.go:16", after := #[{ on := 7, ground := Ground.data }], guard := none }) (v := ?_) rfl (by kernel_rfl) (by kernel_rfl) (by kernel_rfl) (fun _ _ _ h => h) (Or.inl ⟨by rfl, ?_⟩) (by assumption) ?_
      rotate_left
      · intro wq hSw
        (try dsimp only at hSw)
        go_simp
        try with_reducible rfl
      try simp only [Act.put, List.setIfInBounds_toArray, List.set_cons_zero, List.set_cons_succ]
      refine wpAnyH_take (i := 9) (oi := { dst := some 27, op := Op.move (Operand.tmp 0), type := 34, pos := "l6_log.go:16", after := #[], guard := none }) (v := ?_) rfl (by kernel_rfl) (by kernel_rfl) (by kernel_rfl) (fun _ _ _ h => h) (Or.inl ⟨by rfl, ?_⟩) (by assumption) ?_
      rotate_left
      · intro wq hSw
        (try dsimp only at hSw)
        go_simp
        try with_reducible rfl
      try simp only [Act.put, List.setIfInBounds_toArray, List.set_cons_zero, List.set_cons_succ]
      refine wpAnyH_take (i := 10) (oi := { dst := some 28, op := Op.move (Operand.tmp 4), type := 3, pos := "l6_log.go:16", after := #[], guard := none }) (v := ?_) rfl (by kernel_rfl) (by kernel_rfl) (by kernel_rfl) (fun _ _ _ h => h) (Or.inl ⟨by rfl, ?_⟩) (by assumption) ?_
      rotate_left
      · intro wq hSw
        (try dsimp only at hSw)
        go_simp
        try with_reducible rfl
      try simp only [Act.put, List.setIfInBounds_toArray, List.set_cons_zero, List.set_cons_succ]
      refine wpAnyH_take (i := 11) (oi := { dst := some 29, op := Op.indexAddr 34 (Operand.tmp 27) (Operand.tmp 28), type := 0, pos := "l6_log.go:16", after := #[{ on := 9, ground := Ground.data }, { on := 10, ground := Ground.data }], guard := none }) (v := ?_) rfl (by kernel_rfl) (by kernel_rfl) (by kernel_rfl) (fun _ _ _ h => h) (Or.inl ⟨by rfl, ?_⟩) (by assumption) ?_
      rotate_left
      · intro wq hSw
        (try dsimp only at hSw)
        go_simp
        try with_reducible rfl
      try simp only [Act.put, List.setIfInBounds_toArray, List.set_cons_zero, List.set_cons_succ]
      refine wpAnyH_take (i := 12) (oi := { dst := some 30, op := Op.fieldAddr 76 (Operand.tmp 29) 2, type := 0, pos := "l6_log.go:16", after := #[{ on := 11, ground := Ground.data }], guard := none }) (v := ?_) rfl (by kernel_rfl) (by kernel_rfl) (by kernel_rfl) (fun _ _ _ h => h) (Or.inl ⟨by rfl, ?_⟩) (by assumption) ?_
      rotate_left
      · intro wq hSw
        (try dsimp only at hSw)
        go_simp
        try with_reducible rfl
      try simp only [Act.put, List.setIfInBounds_toArray, List.set_cons_zero, List.set_cons_succ]
      refine wpAnyH_take (i := 13) (oi := { dst := some 31, op := Op.load 28 (Operand.tmp 30), type := 28, pos := "l6_log.go:16", after := #[{ on := 12, ground := Ground.data }], guard := none }) (v := ?_) rfl (by kernel_rfl) (by kernel_rfl) (by kernel_rfl) (fun _ _ _ h => h) (Or.inl ⟨by rfl, ?_⟩) (by assumption) ?_
      rotate_left
      · intro wq hSw
        (try dsimp only at hSw)
        go_simp
        try with_reducible rfl
      try simp only [Act.put, List.setIfInBounds_toArray, List.set_cons_zero, List.set_cons_succ]
      refine wpAnyH_ready (rs := [14]) (by kernel_rfl) (by simp) ?_
      refine AllReadyH.cons (o := { dst := some 32, op := Op.call { callee := Callee.value (Operand.func 114), args := #[Operand.tmp 31], argTypes := #[28] }, type := 9, pos := "l6_log.go:16", after := #[{ on := 13, ground := Ground.data }], guard := none }) rfl (fun K hK => ?_) AllReadyH.nil
      go_simp
      refine (c114 x.cd x.tx _ hcd.1 (by omega) (by have := hxs.2; omega)).mono ?_
      rintro e w2 ⟨rfl, hb2⟩
      have HB2 : Hid (Below wr.heap.size wr w2) := ((Below.refl _ _).drew).trans hb2
      have b0 := (HB2.out.cell (p := ⟨b, off + k * 4, none⟩) (by exact hbr)).trans g0
      have b1 := (HB2.out.cell (p := ⟨b, off + k * 4 + 1, none⟩) (by exact hbr)).trans g1
      have b2 := (HB2.out.cell (p := ⟨b, off + k * 4 + 2, none⟩) (by exact hbr)).trans g2
      have b3 := (HB2.out.cell (p := ⟨b, off + k * 4 + 3, none⟩) (by exact hbr)).trans g3
      clear hb2
      go_wp2_with fail
      clear hHeld
      refine hK.out _ _ ?_ (fun hHeld => ?_)
      · ((try dsimp only); go_keep)
      clear hK K
      try simp only [Act.put, List.setIfInBounds_toArray, List.set_cons_zero, List.set_cons_succ]
      refine wpAnyH_take (i := 15) (oi := { dst := some 33, op := Op.binOp BinOp.add 9 (Operand.tmp 26) (Operand.tmp 32) 9, type := 9, pos := "l6_log.go:16", after := #[{ on := 8, ground := Ground.data }, { on := 14, ground := Ground.data }], guard := none }) (v := ?_) rfl (by kernel_rfl) (by kernel_rfl) (by kernel_rfl) (fun _ _ _ h => h) (Or.inl ⟨by rfl, ?_⟩) (by assumption) ?_
      rotate_left
      · intro wq hSw
        (try dsimp only at hSw)
        go_simp
        try with_reducible rfl
      try simp only [Act.put, List.setIfInBounds_toArray, List.set_cons_zero, List.set_cons_succ]
      refine wpAnyH_take (i := 16) (oi := { dst := some 34, op := Op.binOp BinOp.add 9 (Operand.tmp 33) (Operand.const (Value.string { data := #[10] })) 9, type := 9, pos := "l6_log.go:16", after := #[{ on := 15, ground := Ground.data }], guard := none }) (v := ?_) rfl (by kernel_rfl) (by kernel_rfl) (by kernel_rfl) (fun _ _ _ h => h) (Or.inl ⟨by rfl, ?_⟩) (by assumption) ?_
      rotate_left
      · intro wq hSw
        (try dsimp only at hSw)
        go_simp
        try with_reducible rfl
      try simp only [Act.put, List.setIfInBounds_toArray, List.set_cons_zero, List.set_cons_succ]
      refine wpAnyH_ready (rs := [17]) (by kernel_rfl) (by simp) ?_
      refine AllReadyH.cons (o := { dst := some 35, op := Op.call { callee := Callee.builtin Builtin.append, args := #[Operand.tmp 18, Operand.tmp 34], argTypes := #[60, 9] }, type := 60, pos := "l6_log.go:16", after := #[{ on := 0, ground := Ground.data }, { on := 16, ground := Ground.data }, { on := 14, ground := Ground.chain }], guard := none }) rfl (fun K hK => ?_) AllReadyH.nil
      refine step_apps rfl (.tmp 18) (.tmp 34) 60 9 rfl w.heap.size 5 i0 Tryz.underlying60 Tryz.underlying9 hi hz0 hz1 hz2 _ _ _ rfl (ownsRow_below hown.out HB2.out) _ rfl (by simp only [ByteArray.size_append]; unfold maxLen; omega) (by simp only [ByteArray.size_append]; omega) (by have h1 := HB2.out.size; have h2 := hb.size; omega) ?_
      intro v' w3 hown' hgrow hnil
      have hB3 : Below w.heap.size w w3 := (hb.trans (HB2.out.mono hb.size)).grown hgrow (by have h1 := HB2.out.size; have h2 := hb.size; omega) (fun j hj => (hown.out.lt j hj).1)
      have m0 := (hB3.cell (p := ⟨b, off + k * 4, none⟩) hbw).trans n0
      have m1 := (hB3.cell (p := ⟨b, off + k * 4 + 1, none⟩) hbw).trans n1
      have m2 := (hB3.cell (p := ⟨b, off + k * 4 + 2, none⟩) hbw).trans n2
      have m3 := (hB3.cell (p := ⟨b, off + k * 4 + 3, none⟩) hbw).trans n3
      clear hHeld
      refine hK.out _ _ ?_ (fun hHeld => ?_)
      · ((try dsimp only); go_keep)
      clear hK K
      try simp only [Act.put, List.setIfInBounds_toArray, List.set_cons_zero, List.set_cons_succ]
      refine wpAnyH_take (i := 18) (oi := { dst := some 3, op := Op.assign (Operand.tmp 35), type := 60, pos := "l6_log.go:16", after := #[{ on := 17, ground := Ground.data }, { on := 17, ground := Ground.chain }, { on := 0, ground := Ground.phase }, { on := 1, ground := Ground.phase }, { on := 2, ground := Ground.phase }, { on := 3, ground := Ground.phase }, { on := 4, ground := Ground.phase }, { on := 5, ground := Ground.phase }, { on := 6, ground := Ground.phase }, { on := 7, ground := Ground.phase }, { on := 8, ground := Ground.phase }, { on := 9, ground := Ground.phase }, { on := 10, ground := Ground.phase }, { on := 11, ground := Ground.phase }, { on := 12, ground := Ground.phase }, { on := 13, ground := Ground.phase }, { on := 14, ground := Ground.phase }, { on := 15, ground := Ground.phase }, { on := 16, ground := Ground.phase }, { on := 17, ground := Ground.phase }], guard := none }) (v := ?_) rfl (by kernel_rfl) (by kernel_rfl) (by kernel_rfl) (fun _ _ _ h => h) (Or.inl ⟨by rfl, ?_⟩) (by assumption) ?_
      rotate_left
      · intro wq hSw
        (try dsimp only at hSw)
        go_simp
        try with_reducible rfl
      try simp only [Act.put, List.setIfInBounds_toArray, List.set_cons_zero, List.set_cons_succ]
      refine wpAnyH_done (by kernel_rfl) ?_ _
      have HF : Hid (ByteArray.size _ = _ ∧ _) := ⟨congrArg ByteArray.size HE.out, HE.out⟩
      clear hHeld
      go_wp2
      go_roundw
      case rel =>
       refine ⟨k + 1, by omega, by go_num, ?_, fun e => hne.out (hnil.1 e).1, by rw [HSN.out, List.length_append]; have := HLK.out; omega, hB3⟩
       rw [HSN.out, cells_snoc, List.length_append]
       have hq := hown'
       rw [HE.out] at hq
       rw [ofL_size] at hq
       exact hq
      case measure => simp [intOf]; omega
  · have HT : Hid (looksL (ls.take k) = looksL ls) := by rw [List.take_of_length_le (by omega)]; rfl
    have hcv := conv_own' hown.out hne.out
    go_wp2
    go_ret
    exact ⟨by rw [← HT.out]; rfl, hb⟩
end Go.Proofs.YtpjpckmfehfniaaGreatDoor.M
