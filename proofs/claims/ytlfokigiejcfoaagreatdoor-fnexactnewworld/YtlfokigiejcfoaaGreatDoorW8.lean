import Derived.Test.YtlfokigiejcfoaaGreatDoorW7
import Derived.Test.YtlfokigiejcfoaaGreatDoorC5
namespace Go.Proofs.YtlfokigiejcfoaaGreatDoor
open Go.RowKit
theorem info56 : (Tryz.prog.info? 56).map (fun i => (i.zero, i.size, i.bytes)) = some (some (.agg #[.int .i64 0, .bool false, .bool false, .int .i64 0, .int .i64 0, .int .i64 0, .int .i64 0, .int .i64 0, .string ⟨#[]⟩, .string ⟨#[]⟩, .string ⟨#[]⟩, .slice none 0 0, .int .i64 0, .bool false, .int .i64 0, .string ⟨#[]⟩, .bool false, .string ⟨#[]⟩, .int .i64 0]), 19, 200) := by kernel_rfl
theorem NB.mono {u : World} {base base' n b g : Nat} (h : NB u base n b g) (k : base' ≤ base) : NB u base' n b g := ⟨Nat.le_trans k h.b1, h.b2, Nat.le_trans k h.g1, h.g2, h.ne, h.cb, h.fb, h.cg, h.fg⟩
theorem wpList_app {P : Program} {ops : Array Oper} {rest : List Oper} {o : Oper} {a : Act} {w : World} {Q : Exit → Act → World → Prop}
    (hgd : o.guard = none) (s x : Operand) (t : TypeId) (hop : o.op = Op.call { callee := Callee.builtin Builtin.append, args := #[s, x], argTypes := #[t, t] })
    (base : Nat) (e : TypeId) (i : TypeInfo) (z : Value) (size bytes : Nat) (h1 : P.underlying t = some (.slice e)) (h2 : P.info? e = some i) (h3 : i.zero = some z) (h4 : i.size = size) (h5 : i.bytes = bytes) (h6 : z.cells.size = size) (h7 : 0 < size)
    (v : Value) (n : Nat) (xs : List Value) (hs : a.eval s = v) (hown : w.ownsRow base e size v n xs)
    (ad : Addr) (m c : Nat) (news : List Value) (hx : a.eval x = .slice (some ad) m c) (hn : news.length = m * size) (hc : ∀ j u, news[j]? = some u → w.cell? (ad.add j) = some u) (h1c : ∀ u ∈ news, u.oneCell' = true)
    (b1 : n + m ≤ maxLen) (b2 : (n + m) * bytes ≤ 140737488355328) (hb : base ≤ w.heap.size)
    (hK : ∀ v' w', w'.ownsRow base e size v' (n + m) (xs ++ news) → w.grownBy w' v.ownBlock → wpList P ops Q rest (a.put o.dst v') w') : wpList P ops Q (o :: rest) a w := by
  refine wpList_plain hgd fun K hK' => ?_
  obtain ⟨v', w', hrun, r1, r2, _⟩ := run_append_own (P := P) w base t o.type e i z size bytes h1 h2 h3 h4 h5 h6 h7 v n xs hown ad m c news hn hc h1c b1 b2 hb
  unfold Oper.wp
  simp [execOp, hop, resolve, invoke, builtin, hs, hx, hrun, Result.andThen]
  exact hK' _ _ (hK v' w' r1 r2)
theorem own_blk {u : World} {base e size n : Nat} {v : Value} {xs : List Value} (h : u.ownsRow base e size v n xs) {k : Nat} (hk : v.ownBlock = some k) : base ≤ k := by
  rcases h.2 with ⟨hv, _⟩ | ⟨g, cap, cur, hv, hg, hh, _⟩
  · subst hv; simp [Value.ownBlock] at hk
  · subst hv
    simp [Value.ownBlock] at hk
    omega
theorem own_set {u : World} {base e size n : Nat} {v : Value} {xs : List Value} (h : u.ownsRow base e size v n xs) (p : Addr) (x : Value) (hp : p.block < base) : (u.setCell p x).ownsRow base e size v n xs := by
  refine ⟨h.1, h.2.imp id ?_⟩
  rintro ⟨g, cap, cur, h1, h2, h3, h4⟩
  exact ⟨g, cap, cur, h1, h2, (Below.heap_setCell _ _ _ _ (by omega)).trans h3, h4⟩
set_option maxRecDepth 100000 in
theorem c11 (key : ByteArray) (w : World) (hk : key.size ≤ 1048576) : Calls Tryz.prog 11 #[.string key] w fun e w' => e = .returned (.bool (decide (key.size ≤ 30))) ∧ Below w.heap.size w w' := by
  by_cases h : key.size ≤ 30
  · go_enter Tryz.func11, Tryz.ntmps11
    go_wp2
    go_ret
    exact ⟨by simp [h] <;> omega, Below.refl _ _⟩
  · go_enter Tryz.func11, Tryz.ntmps11
    go_wp2
    go_ret
    exact ⟨by simp [h] <;> omega, Below.refl _ _⟩
theorem row_form {u : World} {base e size n : Nat} {v : Value} {xs : List Value} (h : u.ownsRow base e size v n xs) : ∃ a c, v = .slice a n c := by
  rcases h.2 with ⟨hv, h0⟩ | ⟨g, cap, cur, hv, hg, hh, _⟩
  · exact ⟨none, 0, by rw [hv, h0]⟩
  · exact ⟨_, _, hv⟩
theorem nw_over {u u' : World} {R base n b g h : Nat} (x : NW u base n b g h) (hs : u.heap.size ≤ u'.heap.size) (ho : ∀ k, k < u.heap.size → k ≠ R → u'.heap[k]? = u.heap[k]?) (h1 : b ≠ R) (h2 : g ≠ R) (h3 : h ≠ R) : NW u' base n b g h := by
  have kb := ho b x.nb.b2 h1
  have kg := ho g x.nb.g2 h2
  have kh := ho h x.rw.lt h3
  exact ⟨⟨x.nb.b1, Nat.lt_of_lt_of_le x.nb.b2 hs, x.nb.g1, Nat.lt_of_lt_of_le x.nb.g2 hs, x.nb.ne, (World.cell?_of_block (a := ⟨b, 0, none⟩) kb).trans x.nb.cb, (World.frozen?_of_block (a := ⟨b, 0, none⟩) kb).trans x.nb.fb, fun i hi => (World.cell?_of_block (a := ⟨g, i, none⟩) kg).trans (x.nb.cg i hi), fun i => (World.frozen?_of_block (a := ⟨g, i, none⟩) kg).trans (x.nb.fg i)⟩, x.h1, ⟨Nat.lt_of_lt_of_le x.rw.lt hs, fun i hi j v hv => (World.cell?_of_block (a := ⟨h, i * 19 + j, none⟩) kh).trans (x.rw.cell i hi j v hv)⟩, fun i => (World.frozen?_of_block (a := ⟨h, i, none⟩) kh).trans (x.fh i), x.hb, x.hg⟩
/-- What is kept when a worker is put behind the others. -/
structure Kept (u0 u : World) (R B n b g base lo : Nat) (W Z : List Value) : Prop where
  s : u0.heap.size ≤ u.heap.size
  lo : Below lo u0 u
  w : M.BlkAt u B W
  f : M.OpnAt u B
  n : NB u base n b g
  z : M.BlkAt u R Z
  g : M.OpnAt u R
theorem app_step {u0 u : World} {lo R B n b g base e size k : Nat} {v : Value} {xs W Z : List Value} (hO : u0.ownsRow lo e size v k xs) (hg : u0.grownBy u v.ownBlock) (hlo : lo ≤ u0.heap.size)
    (hW : M.BlkAt u0 B W) (hF : M.OpnAt u0 B) (hN : NB u0 base n b g) (hZ : M.BlkAt u0 R Z) (hG : M.OpnAt u0 R) (h1 : B < lo) (h2 : R < lo) (h3 : b < lo) (h4 : g < lo) : Kept u0 u R B n b g base lo W Z := by
  have hb : Below lo u0 u := (Below.refl lo u0).grown hg hlo (fun k hk => own_blk hO hk)
  exact ⟨hb.size, hb, hW.below hb h1, hF.below hb h1, hN.below' hb ⟨h3, h4⟩, hZ.below hb h2, hG.below hb h2⟩
set_option maxHeartbeats 8000000 in
set_option maxRecDepth 100000 in
theorem c4w (d : Int) (n : Nat) (key : ByteArray) (w : World) (hd : btw d 1 8 = true) (hn : btw (n : Int) 1 4 = true) (hk : key.size ≤ 30) :
    Calls Tryz.prog 4 #[.int .i64 d, .int .i64 n, .string key] w fun e w' => (∃ b lc g hc h wc, e = .returned (.agg (worldL d n key b lc g hc h wc).toArray) ∧ NW w' w.heap.size n b g h) ∧ Below w.heap.size w w' := by
  have hn1 : 1 ≤ n ∧ n ≤ 4 := by simp [btw] at hn; omega
  have hd1 : 1 ≤ d ∧ d ≤ 8 := by simp [btw] at hd; omega
  have hd0 : (d == 0) = false := by simp; omega
  have hk0 : decide (30 < (key.size : Int)) = false := by simp; omega
  obtain ⟨i0, hi, hz0, hz1, hz2⟩ := info_parts info56
  have hB0 : Below w.heap.size w (w.alloc (.cells #[.string ⟨#[]⟩, .int .i64 0, .bool false, .int .i64 0, .int .i64 0, .int .i64 0, .slice none 0 0, .slice none 0 0, .slice none 0 0, .int .i64 0, .slice none 0 0, .slice none 0 0, .slice none 0 0, .slice none 0 0, .slice none 0 0, .slice none 0 0, .slice none 0 0, .slice none 0 0, .string ⟨#[]⟩, .slice none 0 0] 40)) := (Below.refl _ _).alloc (Nat.le_refl _) _
  have hzV : (w.alloc (.cells #[.string ⟨#[]⟩, .int .i64 0, .bool false, .int .i64 0, .int .i64 0, .int .i64 0, .slice none 0 0, .slice none 0 0, .slice none 0 0, .int .i64 0, .slice none 0 0, .slice none 0 0, .slice none 0 0, .slice none 0 0, .slice none 0 0, .slice none 0 0, .slice none 0 0, .slice none 0 0, .string ⟨#[]⟩, .slice none 0 0] 40)).heap.size = w.heap.size + 1 := by simp
  have Z0 := hidI (M.blk_new w [.string ⟨#[]⟩, .int .i64 0, .bool false, .int .i64 0, .int .i64 0, .int .i64 0, .slice none 0 0, .slice none 0 0, .slice none 0 0, .int .i64 0, .slice none 0 0, .slice none 0 0, .slice none 0 0, .slice none 0 0, .slice none 0 0, .slice none 0 0, .slice none 0 0, .slice none 0 0, .string ⟨#[]⟩, .slice none 0 0] 40)
  have F0 := hidI (M.opn_new w ([.string ⟨#[]⟩, .int .i64 0, .bool false, .int .i64 0, .int .i64 0, .int .i64 0, .slice none 0 0, .slice none 0 0, .slice none 0 0, .int .i64 0, .slice none 0 0, .slice none 0 0, .slice none 0 0, .slice none 0 0, .slice none 0 0, .slice none 0 0, .slice none 0 0, .slice none 0 0, .string ⟨#[]⟩, .slice none 0 0] : List Value).toArray 40)
  go_enter Tryz.func4, Tryz.ntmps4
  go_wp2_with fail
  generalize (w.alloc (.cells #[.string ⟨#[]⟩, .int .i64 0, .bool false, .int .i64 0, .int .i64 0, .int .i64 0, .slice none 0 0, .slice none 0 0, .slice none 0 0, .int .i64 0, .slice none 0 0, .slice none 0 0, .slice none 0 0, .slice none 0 0, .slice none 0 0, .slice none 0 0, .slice none 0 0, .slice none 0 0, .string ⟨#[]⟩, .slice none 0 0] 40)) = u at *
  refine (c9 d n u hd hn).mono ?_
  rintro e u1 ⟨⟨b, lc, g, hc, rfl, hNB⟩, hb1⟩
  have hs1 := hb1.size
  have lb1 := hNB.b2
  have lg1 := hNB.g2
  have HN := hidI (hNB.mono (base' := w.heap.size + 1) (by omega))
  clear hNB
  have hmark : True := trivial
  go_wp2_with ((refine M.wpList_store_blk rfl 35 (.tmp 7) (.tmp 12) rfl u1.heap.size 0 rfl _ rfl (M.st_some u1 [.int .i64 0, .bool false, .int .i64 0, .int .i64 0, .int .i64 0, .slice none 0 0, .slice none 0 0, .slice none 0 0, .int .i64 0, .slice none 0 0, .slice none 0 0, .slice none 0 0, .slice none 0 0, .slice none 0 0, .slice none 0 0] _ 35 rfl) (M.opn_new u1 _ 35) (by simp [Value.oneCell']) (by kernel_rfl) rfl ?_; revert hmark))
  intro hmark
  clear hmark
  refine M.st_gen rfl ?_
  intro u2 hbu2 HY HYO hltHY
  replace HY := hidI HY
  have HYP := hidI HYO
  clear HYO
  have hzu2 := Nat.le_of_lt hltHY
  have x0 := HY.out 0 _ rfl
  have x1 := HY.out 1 _ rfl
  have hmark : True := trivial
  go_wp2_with (first | refine M.wpList_load_blk rfl 35 (.tmp 7) rfl u1.heap.size rfl _ _ HY.out Tryz.underlying35 rfl (by kernel_rfl) ?_ | (refine M.wpList_store_blk rfl 40 (.tmp 8) (.tmp 24) rfl u2.heap.size 0 rfl _ rfl (M.st_some u2 [.string ⟨#[]⟩, .int .i64 0, .bool false, .int .i64 0, .int .i64 0, .int .i64 0, .slice none 0 0, .slice none 0 0, .slice none 0 0, .int .i64 0, .slice none 0 0, .slice none 0 0, .slice none 0 0, .slice none 0 0, .slice none 0 0, .slice none 0 0, .slice none 0 0, .slice none 0 0, .string ⟨#[]⟩, .slice none 0 0] _ 40 rfl) (M.opn_new u2 _ 40) (by simp [Value.oneCell']) (by kernel_rfl) rfl ?_; revert hmark))
  intro hmark
  clear hmark
  refine M.st_gen rfl ?_
  intro u3 hbu3 HW HWO hltHW
  replace HW := hidI HW
  have HWP := hidI HWO
  clear HWO
  have hzu3 := Nat.le_of_lt hltHW
  have hb13 : Below u1.heap.size u1 u3 := hbu2.trans (hbu3.mono (by omega))
  have hb03 : Below u.heap.size u u3 := hb1.trans (hb13.mono hs1)
  have hB3 := hB0.trans (hb03.mono hB0.size)
  have HN3 := hidI (HN.out.below hb13)
  have Z3 := hidI (Z0.out.below hb03 (by omega))
  have F3 := hidI (F0.out.below hb03 (by omega))
  have lb3 : b < u3.heap.size := by omega
  have lg3 : g < u3.heap.size := by omega
  have hbg : b < u1.heap.size ∧ g < u1.heap.size := ⟨lb1, lg1⟩
  clear Z0 F0 HN HY hB0
  go_wp2_with fail
  go_loopw [9] (fun i wr => ∃ (k : Nat) (v : Value), k ≤ n ∧ i = .int .i64 ((k : Int) + 1) ∧ Below w.heap.size w wr ∧ Hid (M.BlkAt wr u2.heap.size [.string key, .int .i64 d, .bool true, .int .i64 0, .int .i64 1, .int .i64 0, .slice none 0 0, .slice (some ⟨b, 0, none⟩) 1 lc, .slice none 0 0, .int .i64 d, .slice none 0 0, .slice none 0 0, .slice (some ⟨g, 0, none⟩) n hc, .slice none 0 0, .slice none 0 0, .slice none 0 0, v, .slice none 0 0, .string ⟨#[]⟩, .slice none 0 0]) ∧ Hid (M.OpnAt wr u2.heap.size) ∧ Hid (wr.ownsRow u3.heap.size 56 19 v k (wkC k)) ∧ Hid (NB wr (w.heap.size + 1) n b g) ∧ Hid (M.BlkAt wr w.heap.size [.string ⟨#[]⟩, .int .i64 0, .bool false, .int .i64 0, .int .i64 0, .int .i64 0, .slice none 0 0, .slice none 0 0, .slice none 0 0, .int .i64 0, .slice none 0 0, .slice none 0 0, .slice none 0 0, .slice none 0 0, .slice none 0 0, .slice none 0 0, .slice none 0 0, .slice none 0 0, .string ⟨#[]⟩, .slice none 0 0]) ∧ Hid (M.OpnAt wr w.heap.size) ∧ u3.heap.size ≤ wr.heap.size) (fun i _ => n + 1 - (intOf i).toNat)
  case atStart => exact ⟨0, .slice none 0 0, Nat.zero_le _, by simp, hB3, HW, HWP, World.ownsRow_nil _ _ _ _, HN3, Z3, F3, Nat.le_refl _⟩
  case round =>
    obtain ⟨k, v, hk1, rfl, hB, XW, XF, XO, XN, XZ, XG, hsr⟩ := hrel
    clear HW HWP HN3 Z3 F3
    by_cases hlt : k < n
    · have y16 := XW.out 16 _ rfl
      have f16 := XF.out 16
      have hA : Below wr.heap.size wr (wr.alloc (.cells #[.int .i64 ((k : Int) + 1), .bool true, .bool false, .int .i64 0, .int .i64 0, .int .i64 0, .int .i64 0, .int .i64 0, .string ⟨#[]⟩, .string ⟨#[]⟩, .string ⟨#[]⟩, .slice none 0 0, .int .i64 0, .bool false, .int .i64 0, .string ⟨#[]⟩, .bool false, .string ⟨#[]⟩, .int .i64 0] 56)) := (Below.refl _ _).alloc (Nat.le_refl _) _
      have hzA : (wr.alloc (.cells #[.int .i64 ((k : Int) + 1), .bool true, .bool false, .int .i64 0, .int .i64 0, .int .i64 0, .int .i64 0, .int .i64 0, .string ⟨#[]⟩, .string ⟨#[]⟩, .string ⟨#[]⟩, .slice none 0 0, .int .i64 0, .bool false, .int .i64 0, .string ⟨#[]⟩, .bool false, .string ⟨#[]⟩, .int .i64 0] 56)).heap.size = wr.heap.size + 1 := by simp
      have AO := hidI (XO.out.alloc (.cells #[.int .i64 ((k : Int) + 1), .bool true, .bool false, .int .i64 0, .int .i64 0, .int .i64 0, .int .i64 0, .int .i64 0, .string ⟨#[]⟩, .string ⟨#[]⟩, .string ⟨#[]⟩, .slice none 0 0, .int .i64 0, .bool false, .int .i64 0, .string ⟨#[]⟩, .bool false, .string ⟨#[]⟩, .int .i64 0] 56))
      have AR : Hid (∀ j u, (wkL k)[j]? = some u → (wr.alloc (.cells #[.int .i64 ((k : Int) + 1), .bool true, .bool false, .int .i64 0, .int .i64 0, .int .i64 0, .int .i64 0, .int .i64 0, .string ⟨#[]⟩, .string ⟨#[]⟩, .string ⟨#[]⟩, .slice none 0 0, .int .i64 0, .bool false, .int .i64 0, .string ⟨#[]⟩, .bool false, .string ⟨#[]⟩, .int .i64 0] 56)).cell? ((⟨wr.heap.size, 0, none⟩ : Addr).add j) = some u) := fun j u h => by
        rw [M.adr_add, Nat.zero_add]
        exact M.blk_new wr (wkL k) 56 j u h
      have AW := hidI (XW.out.below hA (by omega))
      have AF := hidI (XF.out.below hA (by omega))
      have AN := hidI (XN.out.below hA)
      have AZ := hidI (XZ.out.below hA (by omega))
      have AG := hidI (XG.out.below hA (by omega))
      have hBA := hB.trans (hA.mono hB.size)
      go_wp2_with (refine wpList_app rfl (.tmp 31) (.tmp 34) 36 rfl u3.heap.size 56 i0 (.agg #[.int .i64 0, .bool false, .bool false, .int .i64 0, .int .i64 0, .int .i64 0, .int .i64 0, .int .i64 0, .string ⟨#[]⟩, .string ⟨#[]⟩, .string ⟨#[]⟩, .slice none 0 0, .int .i64 0, .bool false, .int .i64 0, .string ⟨#[]⟩, .bool false, .string ⟨#[]⟩, .int .i64 0]) 19 200 Tryz.underlying36 hi hz0 hz1 hz2 rfl (by decide) v k (wkC k) rfl AO.out ⟨wr.heap.size, 0, none⟩ 1 1 (wkL k) rfl rfl AR.out (by simp [wkL, Value.oneCell']) (by unfold maxLen; omega) (by omega) (by omega) ?_; intro v2 w2 hO2 hgrow; obtain ⟨a2, c2, rfl⟩ := row_form hO2; have HO2 := hidI hO2; have HST := hidI (app_step AO.out hgrow (by omega) AW.out AF.out AN.out AZ.out AG.out (by omega) (by omega) (by omega) (by omega)); have q16 := HST.out.w 16 _ rfl; have qf16 := HST.out.f 16; clear y16 f16 hgrow hO2 AW AF AN AZ AG AO AR)
      have hBW : Below u2.heap.size w2 (w2.setCell ⟨u2.heap.size, 16, none⟩ (.slice a2 (k + 1) c2)) := (Below.refl _ _).setCell (p := ⟨u2.heap.size, 16, none⟩) (Nat.le_refl _) _
      have hsT : (w2.setCell ⟨u2.heap.size, 16, none⟩ (.slice a2 (k + 1) c2)).heap.size = w2.heap.size := by simp
      have hs2 := HST.out.s
      go_roundw
      case rel => exact ⟨k + 1, .slice a2 (k + 1) c2, by omega, by go_num, (hBA.trans (HST.out.lo.mono (by omega))).trans (hBW.mono (by omega)), HST.out.w.set 16 _ (by simp), HST.out.f.set _ _, own_set HO2.out _ _ (by show u2.heap.size < _; omega), HST.out.n.below' hBW ⟨by omega, by omega⟩, HST.out.z.below hBW (by omega), HST.out.g.below hBW (by omega), by omega⟩
      case measure => simp [intOf]; omega
    · obtain rfl : k = n := by omega
      obtain ⟨h, wc, rfl, hh1, hRW, hfz⟩ := own_wk XO.out (by omega)
      have HR := hidI hRW
      have HF := hidI hfz
      have hlh := hRW.lt
      clear hRW hfz XO
      go_wp2_with (first | refine M.wpList_load_blk rfl 40 (.tmp 8) rfl u2.heap.size rfl _ _ XW.out Tryz.underlying40 rfl (by kernel_rfl) ?_ | refine M.wpList_store_blk rfl 40 (.tmp 6) (.tmp 37) rfl w.heap.size 0 rfl _ rfl (M.blk_some XZ.out rfl) XG.out (by simp [Value.oneCell']) (by kernel_rfl) rfl ?_)
      refine M.st_over (old := [.string ⟨#[]⟩, .int .i64 0, .bool false, .int .i64 0, .int .i64 0, .int .i64 0, .slice none 0 0, .slice none 0 0, .slice none 0 0, .int .i64 0, .slice none 0 0, .slice none 0 0, .slice none 0 0, .slice none 0 0, .slice none 0 0, .slice none 0 0, .slice none 0 0, .slice none 0 0, .string ⟨#[]⟩, .slice none 0 0]) (N := w.heap.size) rfl XZ.out XG.out (Nat.le_refl _) ?_
      intro E' hbE ZE FE hsE hoE
      refine bodyPost_ret (v := .agg (worldL d k key b lc g hc h wc).toArray) (M.results_blk (P := Tryz.prog) (ty := 40) rfl _ E' w.heap.size (worldL d k key b lc g hc h wc) _ rfl ZE Tryz.underlying40 rfl (by kernel_rfl)) rfl ⟨⟨b, lc, g, hc, h, wc, rfl, ?_⟩, hB.trans hbE⟩
      exact nw_over (R := w.heap.size) ⟨XN.out.mono (Nat.le_succ _), by omega, HR.out, HF.out, by omega, by omega⟩ hsE hoE (by have := XN.out.b1; omega) (by have := XN.out.g1; omega) (by omega)
set_option maxHeartbeats 8000000 in
set_option maxRecDepth 100000 in
theorem c5w (d : Int) (n : Nat) (key : ByteArray) (w : World) (hd : btw d 1 8 = true) (hn : btw (n : Int) 1 4 = true) (hk : key.size ≤ 30) :
    Calls Tryz.prog 5 #[.int .i64 d, .int .i64 n, .string key] w fun e w' => (∃ b lc g hc h wc, e = .returned (.agg (worldL d n key b lc g hc h wc).toArray) ∧ NW w' w.heap.size n b g h) ∧ Below w.heap.size w w' := by
  have hn1 : 1 ≤ n ∧ n ≤ 4 := by simp [btw] at hn; omega
  have hd1 : 1 ≤ d ∧ d ≤ 8 := by simp [btw] at hd; omega
  have hd0 : (d == 0) = false := by simp; omega
  have hk0 : decide (30 < (key.size : Int)) = false := by simp; omega
  obtain ⟨i0, hi, hz0, hz1, hz2⟩ := info_parts info56
  have hB0 : Below w.heap.size w (w.alloc (.cells #[.string ⟨#[]⟩, .int .i64 0, .bool false, .int .i64 0, .int .i64 0, .int .i64 0, .slice none 0 0, .slice none 0 0, .slice none 0 0, .int .i64 0, .slice none 0 0, .slice none 0 0, .slice none 0 0, .slice none 0 0, .slice none 0 0, .slice none 0 0, .slice none 0 0, .slice none 0 0, .string ⟨#[]⟩, .slice none 0 0] 40)) := (Below.refl _ _).alloc (Nat.le_refl _) _
  have hzV : (w.alloc (.cells #[.string ⟨#[]⟩, .int .i64 0, .bool false, .int .i64 0, .int .i64 0, .int .i64 0, .slice none 0 0, .slice none 0 0, .slice none 0 0, .int .i64 0, .slice none 0 0, .slice none 0 0, .slice none 0 0, .slice none 0 0, .slice none 0 0, .slice none 0 0, .slice none 0 0, .slice none 0 0, .string ⟨#[]⟩, .slice none 0 0] 40)).heap.size = w.heap.size + 1 := by simp
  have Z0 := hidI (M.blk_new w [.string ⟨#[]⟩, .int .i64 0, .bool false, .int .i64 0, .int .i64 0, .int .i64 0, .slice none 0 0, .slice none 0 0, .slice none 0 0, .int .i64 0, .slice none 0 0, .slice none 0 0, .slice none 0 0, .slice none 0 0, .slice none 0 0, .slice none 0 0, .slice none 0 0, .slice none 0 0, .string ⟨#[]⟩, .slice none 0 0] 40)
  have F0 := hidI (M.opn_new w ([.string ⟨#[]⟩, .int .i64 0, .bool false, .int .i64 0, .int .i64 0, .int .i64 0, .slice none 0 0, .slice none 0 0, .slice none 0 0, .int .i64 0, .slice none 0 0, .slice none 0 0, .slice none 0 0, .slice none 0 0, .slice none 0 0, .slice none 0 0, .slice none 0 0, .slice none 0 0, .string ⟨#[]⟩, .slice none 0 0] : List Value).toArray 40)
  go_enter Tryz.func5, Tryz.ntmps5
  go_wp2_with fail
  generalize (w.alloc (.cells #[.string ⟨#[]⟩, .int .i64 0, .bool false, .int .i64 0, .int .i64 0, .int .i64 0, .slice none 0 0, .slice none 0 0, .slice none 0 0, .int .i64 0, .slice none 0 0, .slice none 0 0, .slice none 0 0, .slice none 0 0, .slice none 0 0, .slice none 0 0, .slice none 0 0, .slice none 0 0, .string ⟨#[]⟩, .slice none 0 0] 40)) = u at *
  refine (c10 d n u hd hn).mono ?_
  rintro e u1 ⟨⟨b, lc, g, hc, rfl, hNB⟩, hb1⟩
  have hs1 := hb1.size
  have lb1 := hNB.b2
  have lg1 := hNB.g2
  have HN := hidI (hNB.mono (base' := w.heap.size + 1) (by omega))
  clear hNB
  have hmark : True := trivial
  go_wp2_with ((refine M.wpList_store_blk rfl 35 (.tmp 7) (.tmp 12) rfl u1.heap.size 0 rfl _ rfl (M.st_some u1 [.int .i64 0, .bool false, .int .i64 0, .int .i64 0, .int .i64 0, .slice none 0 0, .slice none 0 0, .slice none 0 0, .int .i64 0, .slice none 0 0, .slice none 0 0, .slice none 0 0, .slice none 0 0, .slice none 0 0, .slice none 0 0] _ 35 rfl) (M.opn_new u1 _ 35) (by simp [Value.oneCell']) (by kernel_rfl) rfl ?_; revert hmark))
  intro hmark
  clear hmark
  refine M.st_gen rfl ?_
  intro u2 hbu2 HY HYO hltHY
  replace HY := hidI HY
  have HYP := hidI HYO
  clear HYO
  have hzu2 := Nat.le_of_lt hltHY
  have x0 := HY.out 0 _ rfl
  have x1 := HY.out 1 _ rfl
  go_wp2_with fail
  refine (c11 key u2 (by omega)).mono ?_
  rintro e u2' ⟨rfl, hbk⟩
  have hsk := hbk.size
  have HY := hidI (HY.out.below hbk (by omega))
  rw [show decide (key.size ≤ 30) = true by simpa using hk]
  clear x0 x1
  have hmark : True := trivial
  go_wp2_with (first | refine M.wpList_load_blk rfl 35 (.tmp 7) rfl u1.heap.size rfl _ _ HY.out Tryz.underlying35 rfl (by kernel_rfl) ?_ | (refine M.wpList_store_blk rfl 40 (.tmp 8) (.tmp 24) rfl u2'.heap.size 0 rfl _ rfl (M.st_some u2' [.string ⟨#[]⟩, .int .i64 0, .bool false, .int .i64 0, .int .i64 0, .int .i64 0, .slice none 0 0, .slice none 0 0, .slice none 0 0, .int .i64 0, .slice none 0 0, .slice none 0 0, .slice none 0 0, .slice none 0 0, .slice none 0 0, .slice none 0 0, .slice none 0 0, .slice none 0 0, .string ⟨#[]⟩, .slice none 0 0] _ 40 rfl) (M.opn_new u2' _ 40) (by simp [Value.oneCell']) (by kernel_rfl) rfl ?_; revert hmark))
  intro hmark
  clear hmark
  refine M.st_gen rfl ?_
  intro u3 hbu3 HW HWO hltHW
  replace HW := hidI HW
  have HWP := hidI HWO
  clear HWO
  have hzu3 := Nat.le_of_lt hltHW
  have hb13 : Below u1.heap.size u1 u3 := (hbu2.trans (hbk.mono (by omega))).trans (hbu3.mono (by omega))
  have hb03 : Below u.heap.size u u3 := hb1.trans (hb13.mono hs1)
  have hB3 := hB0.trans (hb03.mono hB0.size)
  have HN3 := hidI (HN.out.below hb13)
  have Z3 := hidI (Z0.out.below hb03 (by omega))
  have F3 := hidI (F0.out.below hb03 (by omega))
  have lb3 : b < u3.heap.size := by omega
  have lg3 : g < u3.heap.size := by omega
  have hbg : b < u1.heap.size ∧ g < u1.heap.size := ⟨lb1, lg1⟩
  clear Z0 F0 HN HY hB0
  go_wp2_with fail
  go_loopw [26] (fun i wr => ∃ (k : Nat) (v : Value), k ≤ n ∧ i = .int .i64 (k : Int) ∧ Below w.heap.size w wr ∧ Hid (M.BlkAt wr u2'.heap.size [.string key, .int .i64 d, .bool true, .int .i64 0, .int .i64 1, .int .i64 0, .slice none 0 0, .slice (some ⟨b, 0, none⟩) 1 lc, .slice none 0 0, .int .i64 d, .slice none 0 0, .slice none 0 0, .slice (some ⟨g, 0, none⟩) n hc, .slice none 0 0, .slice none 0 0, .slice none 0 0, v, .slice none 0 0, .string ⟨#[]⟩, .slice none 0 0]) ∧ Hid (M.OpnAt wr u2'.heap.size) ∧ Hid (wr.ownsRow u3.heap.size 56 19 v k (wkC k)) ∧ Hid (NB wr (w.heap.size + 1) n b g) ∧ Hid (M.BlkAt wr w.heap.size [.string ⟨#[]⟩, .int .i64 0, .bool false, .int .i64 0, .int .i64 0, .int .i64 0, .slice none 0 0, .slice none 0 0, .slice none 0 0, .int .i64 0, .slice none 0 0, .slice none 0 0, .slice none 0 0, .slice none 0 0, .slice none 0 0, .slice none 0 0, .slice none 0 0, .slice none 0 0, .string ⟨#[]⟩, .slice none 0 0]) ∧ Hid (M.OpnAt wr w.heap.size) ∧ u3.heap.size ≤ wr.heap.size) (fun i _ => n + 1 - (intOf i).toNat)
  case atStart => exact ⟨0, .slice none 0 0, Nat.zero_le _, rfl, hB3, HW, HWP, World.ownsRow_nil _ _ _ _, HN3, Z3, F3, Nat.le_refl _⟩
  case round =>
    obtain ⟨k, v, hk1, rfl, hB, XW, XF, XO, XN, XZ, XG, hsr⟩ := hrel
    clear HW HWP HN3 Z3 F3
    by_cases hlt : k < n
    · have y16 := XW.out 16 _ rfl
      have f16 := XF.out 16
      have hA : Below wr.heap.size wr (wr.alloc (.cells #[.int .i64 ((k : Int) + 1), .bool true, .bool false, .int .i64 0, .int .i64 0, .int .i64 0, .int .i64 0, .int .i64 0, .string ⟨#[]⟩, .string ⟨#[]⟩, .string ⟨#[]⟩, .slice none 0 0, .int .i64 0, .bool false, .int .i64 0, .string ⟨#[]⟩, .bool false, .string ⟨#[]⟩, .int .i64 0] 56)) := (Below.refl _ _).alloc (Nat.le_refl _) _
      have hzA : (wr.alloc (.cells #[.int .i64 ((k : Int) + 1), .bool true, .bool false, .int .i64 0, .int .i64 0, .int .i64 0, .int .i64 0, .int .i64 0, .string ⟨#[]⟩, .string ⟨#[]⟩, .string ⟨#[]⟩, .slice none 0 0, .int .i64 0, .bool false, .int .i64 0, .string ⟨#[]⟩, .bool false, .string ⟨#[]⟩, .int .i64 0] 56)).heap.size = wr.heap.size + 1 := by simp
      have AO := hidI (XO.out.alloc (.cells #[.int .i64 ((k : Int) + 1), .bool true, .bool false, .int .i64 0, .int .i64 0, .int .i64 0, .int .i64 0, .int .i64 0, .string ⟨#[]⟩, .string ⟨#[]⟩, .string ⟨#[]⟩, .slice none 0 0, .int .i64 0, .bool false, .int .i64 0, .string ⟨#[]⟩, .bool false, .string ⟨#[]⟩, .int .i64 0] 56))
      have AR : Hid (∀ j u, (wkL k)[j]? = some u → (wr.alloc (.cells #[.int .i64 ((k : Int) + 1), .bool true, .bool false, .int .i64 0, .int .i64 0, .int .i64 0, .int .i64 0, .int .i64 0, .string ⟨#[]⟩, .string ⟨#[]⟩, .string ⟨#[]⟩, .slice none 0 0, .int .i64 0, .bool false, .int .i64 0, .string ⟨#[]⟩, .bool false, .string ⟨#[]⟩, .int .i64 0] 56)).cell? ((⟨wr.heap.size, 0, none⟩ : Addr).add j) = some u) := fun j u h => by
        rw [M.adr_add, Nat.zero_add]
        exact M.blk_new wr (wkL k) 56 j u h
      have AW := hidI (XW.out.below hA (by omega))
      have AF := hidI (XF.out.below hA (by omega))
      have AN := hidI (XN.out.below hA)
      have AZ := hidI (XZ.out.below hA (by omega))
      have AG := hidI (XG.out.below hA (by omega))
      have hBA := hB.trans (hA.mono hB.size)
      go_wp2_with (refine wpList_app rfl (.tmp 30) (.tmp 34) 36 rfl u3.heap.size 56 i0 (.agg #[.int .i64 0, .bool false, .bool false, .int .i64 0, .int .i64 0, .int .i64 0, .int .i64 0, .int .i64 0, .string ⟨#[]⟩, .string ⟨#[]⟩, .string ⟨#[]⟩, .slice none 0 0, .int .i64 0, .bool false, .int .i64 0, .string ⟨#[]⟩, .bool false, .string ⟨#[]⟩, .int .i64 0]) 19 200 Tryz.underlying36 hi hz0 hz1 hz2 rfl (by decide) v k (wkC k) rfl AO.out ⟨wr.heap.size, 0, none⟩ 1 1 (wkL k) rfl rfl AR.out (by simp [wkL, Value.oneCell']) (by unfold maxLen; omega) (by omega) (by omega) ?_; intro v2 w2 hO2 hgrow; obtain ⟨a2, c2, rfl⟩ := row_form hO2; have HO2 := hidI hO2; have HST := hidI (app_step AO.out hgrow (by omega) AW.out AF.out AN.out AZ.out AG.out (by omega) (by omega) (by omega) (by omega)); have q16 := HST.out.w 16 _ rfl; have qf16 := HST.out.f 16; clear y16 f16 hgrow hO2 AW AF AN AZ AG AO AR)
      have hBW : Below u2'.heap.size w2 (w2.setCell ⟨u2'.heap.size, 16, none⟩ (.slice a2 (k + 1) c2)) := (Below.refl _ _).setCell (p := ⟨u2'.heap.size, 16, none⟩) (Nat.le_refl _) _
      have hsT : (w2.setCell ⟨u2'.heap.size, 16, none⟩ (.slice a2 (k + 1) c2)).heap.size = w2.heap.size := by simp
      have hs2 := HST.out.s
      go_roundw
      case rel => exact ⟨k + 1, .slice a2 (k + 1) c2, by omega, by go_num, (hBA.trans (HST.out.lo.mono (by omega))).trans (hBW.mono (by omega)), HST.out.w.set 16 _ (by simp), HST.out.f.set _ _, own_set HO2.out _ _ (by show u2'.heap.size < _; omega), HST.out.n.below' hBW ⟨by omega, by omega⟩, HST.out.z.below hBW (by omega), HST.out.g.below hBW (by omega), by omega⟩
      case measure => simp [intOf]; omega
    · obtain rfl : k = n := by omega
      obtain ⟨h, wc, rfl, hh1, hRW, hfz⟩ := own_wk XO.out (by omega)
      have HR := hidI hRW
      have HF := hidI hfz
      have hlh := hRW.lt
      clear hRW hfz XO
      go_wp2_with (first | refine M.wpList_load_blk rfl 40 (.tmp 8) rfl u2'.heap.size rfl _ _ XW.out Tryz.underlying40 rfl (by kernel_rfl) ?_ | refine M.wpList_store_blk rfl 40 (.tmp 6) (.tmp 38) rfl w.heap.size 0 rfl _ rfl (M.blk_some XZ.out rfl) XG.out (by simp [Value.oneCell']) (by kernel_rfl) rfl ?_)
      refine M.st_over (old := [.string ⟨#[]⟩, .int .i64 0, .bool false, .int .i64 0, .int .i64 0, .int .i64 0, .slice none 0 0, .slice none 0 0, .slice none 0 0, .int .i64 0, .slice none 0 0, .slice none 0 0, .slice none 0 0, .slice none 0 0, .slice none 0 0, .slice none 0 0, .slice none 0 0, .slice none 0 0, .string ⟨#[]⟩, .slice none 0 0]) (N := w.heap.size) rfl XZ.out XG.out (Nat.le_refl _) ?_
      intro E' hbE ZE FE hsE hoE
      refine bodyPost_ret (v := .agg (worldL d k key b lc g hc h wc).toArray) (M.results_blk (P := Tryz.prog) (ty := 40) rfl _ E' w.heap.size (worldL d k key b lc g hc h wc) _ rfl ZE Tryz.underlying40 rfl (by kernel_rfl)) rfl ⟨⟨b, lc, g, hc, h, wc, rfl, ?_⟩, hB.trans hbE⟩
      exact nw_over (R := w.heap.size) ⟨XN.out.mono (Nat.le_succ _), by omega, HR.out, HF.out, by omega, by omega⟩ hsE hoE (by have := XN.out.b1; omega) (by have := XN.out.g1; omega) (by omega)
end Go.Proofs.YtlfokigiejcfoaaGreatDoor
