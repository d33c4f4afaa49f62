import Derived.Test.YtpjpckmfehfniaaGreatDoorZC21
import Derived.Test.YtpjpckmfehfniaaGreatDoorZC22
import Derived.Test.YtpjpckmfehfniaaGreatDoorZC20
namespace Go.Proofs.YtpjpckmfehfniaaGreatDoor.M
open Go.RowKit
def lkC (is : List L4) : List Value := is.flatMap fun x => [.bool x.has, .string x.nm, .int .i64 x.cd, .string x.tx]
theorem lkC_len (is : List L4) : (lkC is).length = is.length * 4 := by
 induction is with
 | nil => rfl
 | cons x is ih =>
   show ([_, _, _, _] ++ lkC is).length = _
   rw [List.length_append, ih]
   simp; omega
theorem lkC_one (is : List L4) : ∀ u ∈ lkC is, u.oneCell' = true := by
 intro u hu
 obtain ⟨x, _, hx⟩ := List.mem_flatMap.1 hu
 simp at hx
 rcases hx with rfl | rfl | rfl | rfl <;> rfl
theorem lkC_get (is : List L4) : ∀ i, i < is.length → (lkC is)[i * 4]? = some (.bool (is.getD i l4z).has) ∧ (lkC is)[i * 4 + 1]? = some (.string (is.getD i l4z).nm) ∧ (lkC is)[i * 4 + 2]? = some (.int .i64 (is.getD i l4z).cd) ∧ (lkC is)[i * 4 + 3]? = some (.string (is.getD i l4z).tx) := by
 induction is with
 | nil => intro i h; exact absurd h (Nat.not_lt_zero _)
 | cons x is ih =>
   intro i h
   cases i with
   | zero => exact ⟨rfl, rfl, rfl, rfl⟩
   | succ i =>
     have hi : i < is.length := by simpa using h
     have k := ih i hi
     have e : ∀ j, (lkC (x :: is))[(i + 1) * 4 + j]? = (lkC is)[i * 4 + j]? := fun j => by
      show ([_, _, _, _] ++ lkC is)[(i + 1) * 4 + j]? = _
      rw [List.getElem?_append_right (by simp; omega)]
      congr 1
      simp; omega
     have e0 := e 0
     simp only [Nat.add_zero] at e0
     rw [e0, e 1, e 2, e 3]
     simpa using k
theorem lkC_src {w : World} {b off : Nat} {is : List L4} (h : ∀ i, i < is.length → w.cell? ⟨b, off + i * 4, none⟩ = some (.bool (is.getD i l4z).has) ∧ w.cell? ⟨b, off + i * 4 + 1, none⟩ = some (.string (is.getD i l4z).nm) ∧ w.cell? ⟨b, off + i * 4 + 2, none⟩ = some (.int .i64 (is.getD i l4z).cd) ∧ w.cell? ⟨b, off + i * 4 + 3, none⟩ = some (.string (is.getD i l4z).tx)) :
 ∀ j u, (lkC is)[j]? = some u → w.cell? ((⟨b, off, none⟩ : Addr).add j) = some u := by
 intro j u hu
 have hj : j < is.length * 4 := by rw [← lkC_len]; exact (List.getElem?_eq_some_iff.1 hu).1
 have k := lkC_get is (j / 4) (by omega)
 have c := h (j / 4) (by omega)
 have ea : (⟨b, off, none⟩ : Addr).add j = ⟨b, off + j, none⟩ := by unfold Addr.add; split <;> simp_all
 rw [ea]
 have hm : j % 4 = 0 ∨ j % 4 = 1 ∨ j % 4 = 2 ∨ j % 4 = 3 := by omega
 rcases hm with hm | hm | hm | hm
 · have e : j = j / 4 * 4 := by omega
   have e2 : off + j = off + j / 4 * 4 := by omega
   rw [e2, c.1, ← hu]
   rw [show (lkC is)[j]? = (lkC is)[j / 4 * 4]? by rw [← e], k.1]
 · have e : j = j / 4 * 4 + 1 := by omega
   have e2 : off + j = off + j / 4 * 4 + 1 := by omega
   rw [e2, c.2.1, ← hu]
   rw [show (lkC is)[j]? = (lkC is)[j / 4 * 4 + 1]? by rw [← e], k.2.1]
 · have e : j = j / 4 * 4 + 2 := by omega
   have e2 : off + j = off + j / 4 * 4 + 2 := by omega
   rw [e2, c.2.2.1, ← hu]
   rw [show (lkC is)[j]? = (lkC is)[j / 4 * 4 + 2]? by rw [← e], k.2.2.1]
 · have e : j = j / 4 * 4 + 3 := by omega
   have e2 : off + j = off + j / 4 * 4 + 3 := by omega
   rw [e2, c.2.2.2, ← hu]
   rw [show (lkC is)[j]? = (lkC is)[j / 4 * 4 + 3]? by rw [← e], k.2.2.2]
structure LkOwn (w : World) (B : Nat) (ao : Option Addr) (is : List L4) : Prop where
 at' : LksAt w ao is
 own : is = [] ∨ ∃ g, ao = some ⟨g, 0, none⟩ ∧ B ≤ g ∧ Open4 w g is.length
theorem own_lks {w : World} {B : Nat} {v : Value} {n : Nat} {is : List L4} (h : w.ownsRow B 76 4 v n (lkC is)) (hn : n = is.length) : ∃ ao c, v = .slice ao n c ∧ LkOwn w B ao is := by
 subst hn
 have h' := h
 obtain ⟨h1, h2⟩ := h
 rcases h2 with ⟨rfl, h0⟩ | ⟨g, cp, cur, rfl, hg, hh, _⟩
 · have e : is = [] := List.length_eq_zero_iff.1 h0
   subst e
   exact ⟨none, 0, rfl, .inl rfl, .inl rfl⟩
 · have hlt : g < w.heap.size := blk_lt hh
   refine ⟨some ⟨g, 0, none⟩, cp, rfl, .inr ⟨g, 0, rfl, hlt, fun i hi => ?_⟩, .inr ⟨g, rfl, hg, hlt, fun j hj => ?_, fun j => h'.frozenAt j⟩⟩
   · have k := lkC_get is i hi
     simp only [Nat.zero_add]
     rw [h'.cellAt _ (by omega), h'.cellAt _ (by omega), h'.cellAt _ (by omega), h'.cellAt _ (by omega)]
     exact k
   · rw [h'.cellAt j hj]
     have : j < (lkC is).length := by rw [lkC_len]; exact hj
     exact ⟨_, List.getElem?_eq_getElem this⟩
theorem wpList_app {P : Program} {ops : Array Oper} {rest : List Oper} {o : Oper} {a : Act} {w : World} {Q : Exit → Act → World → Prop}
 (hgd : o.guard = none) (s x : Operand) (t : TypeId) (hop : o.op = Op.call { callee := Callee.builtin Builtin.append, args := #[s, x], argTypes := #[t, t] })
 (base : Nat) (e : TypeId) (i : TypeInfo) (z : Value) (size bytes : Nat) (h1 : P.underlying t = some (.slice e)) (h2 : P.info? e = some i) (h3 : i.zero = some z) (h4 : i.size = size) (h5 : i.bytes = bytes) (h6 : z.cells.size = size) (h7 : 0 < size)
 (v : Value) (n : Nat) (xs : List Value) (hs : a.eval s = v) (hown : w.ownsRow base e size v n xs)
 (ad : Addr) (m c : Nat) (news : List Value) (hx : a.eval x = .slice (some ad) m c) (hn : news.length = m * size) (hc : ∀ j u, news[j]? = some u → w.cell? (ad.add j) = some u) (h1c : ∀ u ∈ news, u.oneCell' = true)
 (b1 : n + m ≤ maxLen) (b2 : (n + m) * bytes ≤ 140737488355328) (hb : base ≤ w.heap.size)
 (hK : ∀ v' w', w'.ownsRow base e size v' (n + m) (xs ++ news) → w.grownBy w' v.ownBlock → wpList P ops Q rest (a.put o.dst v') w') : wpList P ops Q (o :: rest) a w := by
 refine wpList_plain hgd fun K hK' => ?_
 obtain ⟨v', w', hrun, r1, r2, _⟩ := run_append_own (P := P) w base t o.type e i z size bytes h1 h2 h3 h4 h5 h6 h7 v n xs hown ad m c news hn hc h1c b1 b2 hb
 unfold Oper.wp
 simp [execOp, hop, resolve, invoke, builtin, hs, hx, hrun, Result.andThen]
 exact hK' _ _ (hK v' w' r1 r2)
theorem LkOwn.mono {w : World} {B B' : Nat} {ao : Option Addr} {is : List L4} (h : LkOwn w B ao is) (hB : B' ≤ B) : LkOwn w B' ao is :=
 ⟨h.at', h.own.imp id fun ⟨g, h1, h2, h3⟩ => ⟨g, h1, Nat.le_trans hB h2, h3⟩⟩
theorem lkown_set {w : World} {B : Nat} {ao : Option Addr} {is : List L4} (h : LkOwn w B ao is) (p : Addr) (v : Value) (hp : p.block < B) : LkOwn (w.setCell p v) B ao is := by
 rcases h.own with rfl | ⟨g, rfl, hg, ho⟩
 · exact ⟨.inl rfl, .inl rfl⟩
 · have hne : ∀ j, p ≠ (⟨g, j, none⟩ : Addr) := fun j e => by rw [e] at hp; have : g < B := hp; omega
   have hc : ∀ j, (w.setCell p v).cell? ⟨g, j, none⟩ = w.cell? ⟨g, j, none⟩ := fun j => World.cell?_setCell_other _ _ _ _ (hne j)
   refine ⟨?_, .inr ⟨g, rfl, hg, by simpa using ho.1, fun j hj => by rw [hc]; exact ho.2.1 j hj, fun j => by simpa using ho.2.2 j⟩⟩
   rcases h.at' with h1 | ⟨b, off, h1, h2, h3⟩
   · exact .inl h1
   · injection h1 with h1; injection h1 with h1 h4; subst h1; subst h4
     exact .inr ⟨g, 0, rfl, by simpa using h2, fun i hi => by rw [hc, hc, hc, hc]; exact h3 i hi⟩
theorem lkown_fill {B : Nat} {ao : Option Addr} {is : List L4} (b : Nat) (vs : List Value) (hb : b < B) : ∀ {w : World} (j : Nat), LkOwn w B ao is → LkOwn (fill w b j vs) B ao is := by
 induction vs with
 | nil => intro w j h; exact h
 | cons v vs ih => intro w j h; exact ih (j + 1) (lkown_set h ⟨b, j, none⟩ v hb)
theorem lk_src {w : World} {b : Nat} {is : List L4} (hat : LksAt w (some ⟨b, 0, none⟩) is) : ∀ u, Below w.heap.size w u → ∀ j v, (lkC is)[j]? = some v → u.cell? ((⟨b, 0, none⟩ : Addr).add j) = some v := by
 rcases hat with rfl | ⟨b', off', h1, h2, h3⟩
 · intro u hu j v hv; simp [lkC] at hv
 · injection h1 with h1; injection h1 with h1 h4; subst h1; subst h4
   intro u hu j v hv
   rw [hu.cell (by unfold Addr.add; split <;> exact h2)]; exact lkC_src h3 j v hv
set_option maxHeartbeats 2000000 in
set_option maxRecDepth 100000 in
theorem c96 (b n : Nat) (is : List L4) (w : World) (hl : is.length ≤ 1048576) (hat : LksAt w (some ⟨b, 0, none⟩) is) :
 Calls Tryz.prog 96 #[.slice (some ⟨b, 0, none⟩) is.length n] w fun e w' => (∃ ao c, e = .returned (.slice ao is.length c) ∧ LkOwn w' w.heap.size ao is) ∧ Below w.heap.size w w' := by
 obtain ⟨i0, hi, hz0, hz1, hz2⟩ := info_parts info76
 have hnil : ∀ u, (binOp .eql 34 (.slice (some ⟨b, 0, none⟩) is.length n) (.slice none 0 0)).run Tryz.prog u = .ok (.bool false) u := fun u => by kernel_rfl
 have HSRC : Hid (∀ u, Below w.heap.size w u → ∀ j v, (lkC is)[j]? = some v → u.cell? ((⟨b, 0, none⟩ : Addr).add j) = some v) := lk_src hat
 clear hat
 go_enter Tryz.func96, Tryz.ntmps96
 have hmark : True := trivial
 go_wp2_with (refine wpList_app rfl (.tmp 5) (.tmp 6) 34 rfl w.heap.size 76 i0 (.agg #[.bool false, .string ⟨#[]⟩, .int .i64 0, .string ⟨#[]⟩]) 4 48 Tryz.underlying34 hi hz0 hz1 hz2 rfl (by decide) _ _ _ rfl ((World.ownsRow_made w #[] 0 (Nat.le_refl _) (Nat.zero_le _) rfl)) ⟨b, 0, none⟩ is.length n (lkC is) rfl (lkC_len is) (HSRC.out _ ((Below.refl _ _).alloc (Nat.le_refl _) _)) (lkC_one is) (by unfold maxLen; omega) (by omega) (by simp) ?_; revert hmark)
 intro v' w2 hown hgrow
 obtain ⟨ao, c, rfl, hlk⟩ := own_lks (is := is) hown rfl
 have hB2 : Below w.heap.size w w2 := ((Below.refl _ _).alloc (Nat.le_refl _) _).grown hgrow (by simp) (fun kb h => by have h' : some w.heap.size = some kb := h; injection h' with h'; omega)
 go_wp2
 go_ret
 exact ⟨⟨ao, c, rfl, hlk⟩, hB2⟩
set_option maxHeartbeats 2000000 in
set_option maxRecDepth 100000 in
theorem c65 (x : G16) (b n : Nat) (w : World) (hl : x.ls.length ≤ 1048576) (hat : LksAt w (some ⟨b, 0, none⟩) x.ls) :
 Calls Tryz.prog 65 #[.agg #[.int .i64 x.kd, .int .i64 x.to, .int .i64 x.fr, .int .i64 x.ep, .int .i64 x.ed, .string x.km.nm, .string x.km.tl, .string x.km.ar, .slice (some ⟨b, 0, none⟩) x.ls.length n, .int .i64 x.ct, .bool x.tn.over, .int .i64 x.tn.cd, .string x.tn.tx, .bool x.tn.has, .string x.tn.nm, .int .i64 x.tn.st]] w fun e w' => (∃ ao c, e = .returned (.agg #[.int .i64 x.kd, .int .i64 x.to, .int .i64 x.fr, .int .i64 x.ep, .int .i64 x.ed, .string x.km.nm, .string x.km.tl, .string x.km.ar, .slice ao x.ls.length c, .int .i64 x.ct, .bool x.tn.over, .int .i64 x.tn.cd, .string x.tn.tx, .bool x.tn.has, .string x.tn.nm, .int .i64 x.tn.st]) ∧ LkOwn w' w.heap.size ao x.ls) ∧ Below w.heap.size w w' := by
 obtain ⟨i0, hi, hz0, hz1, hz2⟩ := info_parts info76
 have HSRC : Hid (∀ u, Below w.heap.size w u → ∀ j v, (lkC x.ls)[j]? = some v → u.cell? ((⟨b, 0, none⟩ : Addr).add j) = some v) := lk_src hat
 have hB0 : Below w.heap.size w ((w.alloc (.cells #[.int .i64 x.kd, .int .i64 x.to, .int .i64 x.fr, .int .i64 x.ep, .int .i64 x.ed, .string x.km.nm, .string x.km.tl, .string x.km.ar, .slice (some ⟨b, 0, none⟩) x.ls.length n, .int .i64 x.ct, .bool x.tn.over, .int .i64 x.tn.cd, .string x.tn.tx, .bool x.tn.has, .string x.tn.nm, .int .i64 x.tn.st] 48)).alloc (.cells #[.int .i64 0, .int .i64 0, .int .i64 0, .int .i64 0, .int .i64 0, .string ⟨#[]⟩, .string ⟨#[]⟩, .string ⟨#[]⟩, .slice none 0 0, .int .i64 0, .bool false, .int .i64 0, .string ⟨#[]⟩, .bool false, .string ⟨#[]⟩, .int .i64 0] 48)) := ((Below.refl _ _).alloc (Nat.le_refl _) _).alloc (by simp) _
 have ZM : BlkAt ((w.alloc (.cells #[.int .i64 x.kd, .int .i64 x.to, .int .i64 x.fr, .int .i64 x.ep, .int .i64 x.ed, .string x.km.nm, .string x.km.tl, .string x.km.ar, .slice (some ⟨b, 0, none⟩) x.ls.length n, .int .i64 x.ct, .bool x.tn.over, .int .i64 x.tn.cd, .string x.tn.tx, .bool x.tn.has, .string x.tn.nm, .int .i64 x.tn.st] 48)).alloc (.cells #[.int .i64 0, .int .i64 0, .int .i64 0, .int .i64 0, .int .i64 0, .string ⟨#[]⟩, .string ⟨#[]⟩, .string ⟨#[]⟩, .slice none 0 0, .int .i64 0, .bool false, .int .i64 0, .string ⟨#[]⟩, .bool false, .string ⟨#[]⟩, .int .i64 0] 48)) w.heap.size [.int .i64 x.kd, .int .i64 x.to, .int .i64 x.fr, .int .i64 x.ep, .int .i64 x.ed, .string x.km.nm, .string x.km.tl, .string x.km.ar, .slice (some ⟨b, 0, none⟩) x.ls.length n, .int .i64 x.ct, .bool x.tn.over, .int .i64 x.tn.cd, .string x.tn.tx, .bool x.tn.has, .string x.tn.nm, .int .i64 x.tn.st] := fun j v h => by simp [go_sem, h]
 have ZR : BlkAt ((w.alloc (.cells #[.int .i64 x.kd, .int .i64 x.to, .int .i64 x.fr, .int .i64 x.ep, .int .i64 x.ed, .string x.km.nm, .string x.km.tl, .string x.km.ar, .slice (some ⟨b, 0, none⟩) x.ls.length n, .int .i64 x.ct, .bool x.tn.over, .int .i64 x.tn.cd, .string x.tn.tx, .bool x.tn.has, .string x.tn.nm, .int .i64 x.tn.st] 48)).alloc (.cells #[.int .i64 0, .int .i64 0, .int .i64 0, .int .i64 0, .int .i64 0, .string ⟨#[]⟩, .string ⟨#[]⟩, .string ⟨#[]⟩, .slice none 0 0, .int .i64 0, .bool false, .int .i64 0, .string ⟨#[]⟩, .bool false, .string ⟨#[]⟩, .int .i64 0] 48)) (w.heap.size + 1) [.int .i64 0, .int .i64 0, .int .i64 0, .int .i64 0, .int .i64 0, .string ⟨#[]⟩, .string ⟨#[]⟩, .string ⟨#[]⟩, .slice none 0 0, .int .i64 0, .bool false, .int .i64 0, .string ⟨#[]⟩, .bool false, .string ⟨#[]⟩, .int .i64 0] := fun j v h => by simp [go_sem, h]
 have fM : OpnAt ((w.alloc (.cells #[.int .i64 x.kd, .int .i64 x.to, .int .i64 x.fr, .int .i64 x.ep, .int .i64 x.ed, .string x.km.nm, .string x.km.tl, .string x.km.ar, .slice (some ⟨b, 0, none⟩) x.ls.length n, .int .i64 x.ct, .bool x.tn.over, .int .i64 x.tn.cd, .string x.tn.tx, .bool x.tn.has, .string x.tn.nm, .int .i64 x.tn.st] 48)).alloc (.cells #[.int .i64 0, .int .i64 0, .int .i64 0, .int .i64 0, .int .i64 0, .string ⟨#[]⟩, .string ⟨#[]⟩, .string ⟨#[]⟩, .slice none 0 0, .int .i64 0, .bool false, .int .i64 0, .string ⟨#[]⟩, .bool false, .string ⟨#[]⟩, .int .i64 0] 48)) w.heap.size := fun j => by simp [go_sem]
 have fR : OpnAt ((w.alloc (.cells #[.int .i64 x.kd, .int .i64 x.to, .int .i64 x.fr, .int .i64 x.ep, .int .i64 x.ed, .string x.km.nm, .string x.km.tl, .string x.km.ar, .slice (some ⟨b, 0, none⟩) x.ls.length n, .int .i64 x.ct, .bool x.tn.over, .int .i64 x.tn.cd, .string x.tn.tx, .bool x.tn.has, .string x.tn.nm, .int .i64 x.tn.st] 48)).alloc (.cells #[.int .i64 0, .int .i64 0, .int .i64 0, .int .i64 0, .int .i64 0, .string ⟨#[]⟩, .string ⟨#[]⟩, .string ⟨#[]⟩, .slice none 0 0, .int .i64 0, .bool false, .int .i64 0, .string ⟨#[]⟩, .bool false, .string ⟨#[]⟩, .int .i64 0] 48)) (w.heap.size + 1) := fun j => by simp [go_sem]
 have hz0' : ((w.alloc (.cells #[.int .i64 x.kd, .int .i64 x.to, .int .i64 x.fr, .int .i64 x.ep, .int .i64 x.ed, .string x.km.nm, .string x.km.tl, .string x.km.ar, .slice (some ⟨b, 0, none⟩) x.ls.length n, .int .i64 x.ct, .bool x.tn.over, .int .i64 x.tn.cd, .string x.tn.tx, .bool x.tn.has, .string x.tn.nm, .int .i64 x.tn.st] 48)).alloc (.cells #[.int .i64 0, .int .i64 0, .int .i64 0, .int .i64 0, .int .i64 0, .string ⟨#[]⟩, .string ⟨#[]⟩, .string ⟨#[]⟩, .slice none 0 0, .int .i64 0, .bool false, .int .i64 0, .string ⟨#[]⟩, .bool false, .string ⟨#[]⟩, .int .i64 0] 48)).heap.size = w.heap.size + 2 := by simp
 have a8 := ZM 8 _ rfl
 have hown0 : (((w.alloc (.cells #[.int .i64 x.kd, .int .i64 x.to, .int .i64 x.fr, .int .i64 x.ep, .int .i64 x.ed, .string x.km.nm, .string x.km.tl, .string x.km.ar, .slice (some ⟨b, 0, none⟩) x.ls.length n, .int .i64 x.ct, .bool x.tn.over, .int .i64 x.tn.cd, .string x.tn.tx, .bool x.tn.has, .string x.tn.nm, .int .i64 x.tn.st] 48)).alloc (.cells #[.int .i64 0, .int .i64 0, .int .i64 0, .int .i64 0, .int .i64 0, .string ⟨#[]⟩, .string ⟨#[]⟩, .string ⟨#[]⟩, .slice none 0 0, .int .i64 0, .bool false, .int .i64 0, .string ⟨#[]⟩, .bool false, .string ⟨#[]⟩, .int .i64 0] 48)).alloc (.cells #[] 76)).ownsRow (w.heap.size + 2) 76 4 (.slice (some ⟨w.heap.size + 2, 0, none⟩) 0 0) 0 [] := by
  have h := World.ownsRow_made (base := w.heap.size + 2) (e := 76) (size := 4) ((w.alloc (.cells #[.int .i64 x.kd, .int .i64 x.to, .int .i64 x.fr, .int .i64 x.ep, .int .i64 x.ed, .string x.km.nm, .string x.km.tl, .string x.km.ar, .slice (some ⟨b, 0, none⟩) x.ls.length n, .int .i64 x.ct, .bool x.tn.over, .int .i64 x.tn.cd, .string x.tn.tx, .bool x.tn.has, .string x.tn.nm, .int .i64 x.tn.st] 48)).alloc (.cells #[.int .i64 0, .int .i64 0, .int .i64 0, .int .i64 0, .int .i64 0, .string ⟨#[]⟩, .string ⟨#[]⟩, .string ⟨#[]⟩, .slice none 0 0, .int .i64 0, .bool false, .int .i64 0, .string ⟨#[]⟩, .bool false, .string ⟨#[]⟩, .int .i64 0] 48)) #[] 0 (by rw [hz0']; exact Nat.le_refl _) (Nat.zero_le _) rfl
  rw [hz0'] at h
  exact h
 clear hat
 go_enter Tryz.func65, Tryz.ntmps65
 have hmark : True := trivial
 go_wp2_with (refine wpList_app rfl (.tmp 3) (.tmp 5) 34 rfl (w.heap.size + 2) 76 i0 (.agg #[.bool false, .string ⟨#[]⟩, .int .i64 0, .string ⟨#[]⟩]) 4 48 Tryz.underlying34 hi hz0 hz1 hz2 rfl (by decide) _ _ _ rfl hown0 ⟨b, 0, none⟩ x.ls.length n (lkC x.ls) rfl (lkC_len x.ls) (HSRC.out _ (hB0.alloc hB0.size _)) (lkC_one x.ls) (by unfold maxLen; omega) (by omega) (by first | (simp; done) | (simp; omega)) ?_; revert hmark)
 intro v' w2 hown hgrow
 obtain ⟨ao, c, rfl, hlk⟩ := own_lks (is := x.ls) hown rfl
 have HLK : Hid (LkOwn w2 (w.heap.size + 2) ao x.ls) := hlk
 have hX2 : Below (w.heap.size + 2) ((w.alloc (.cells #[.int .i64 x.kd, .int .i64 x.to, .int .i64 x.fr, .int .i64 x.ep, .int .i64 x.ed, .string x.km.nm, .string x.km.tl, .string x.km.ar, .slice (some ⟨b, 0, none⟩) x.ls.length n, .int .i64 x.ct, .bool x.tn.over, .int .i64 x.tn.cd, .string x.tn.tx, .bool x.tn.has, .string x.tn.nm, .int .i64 x.tn.st] 48)).alloc (.cells #[.int .i64 0, .int .i64 0, .int .i64 0, .int .i64 0, .int .i64 0, .string ⟨#[]⟩, .string ⟨#[]⟩, .string ⟨#[]⟩, .slice none 0 0, .int .i64 0, .bool false, .int .i64 0, .string ⟨#[]⟩, .bool false, .string ⟨#[]⟩, .int .i64 0] 48)) w2 := ((Below.refl (w.heap.size + 2) ((w.alloc (.cells #[.int .i64 x.kd, .int .i64 x.to, .int .i64 x.fr, .int .i64 x.ep, .int .i64 x.ed, .string x.km.nm, .string x.km.tl, .string x.km.ar, .slice (some ⟨b, 0, none⟩) x.ls.length n, .int .i64 x.ct, .bool x.tn.over, .int .i64 x.tn.cd, .string x.tn.tx, .bool x.tn.has, .string x.tn.nm, .int .i64 x.tn.st] 48)).alloc (.cells #[.int .i64 0, .int .i64 0, .int .i64 0, .int .i64 0, .int .i64 0, .string ⟨#[]⟩, .string ⟨#[]⟩, .string ⟨#[]⟩, .slice none 0 0, .int .i64 0, .bool false, .int .i64 0, .string ⟨#[]⟩, .bool false, .string ⟨#[]⟩, .int .i64 0] 48))).alloc (by rw [hz0']; exact Nat.le_refl _) _).grown hgrow (by first | (simp; done) | (simp; omega)) (fun kb h => by have h' : some (w.heap.size + 2) = some kb := h; injection h' with h'; omega)
 have hB2 : Below w.heap.size w w2 := hB0.trans (hX2.mono (by omega))
 have hz2' : w.heap.size + 2 ≤ w2.heap.size := by have := hX2.size; rw [hz0'] at this; exact this
 have ZM2 := ZM.below hX2 (by omega)
 have ZR2 := ZR.below hX2 (by omega)
 have fM2 := fM.below hX2 (by omega)
 have fR2 := fR.below hX2 (by omega)
 have b8 := ZM2 8 _ rfl
 have g8 := fM2 8
 have ZM3 : BlkAt (w2.setCell ⟨w.heap.size, 8, none⟩ (.slice ao x.ls.length c)) w.heap.size [.int .i64 x.kd, .int .i64 x.to, .int .i64 x.fr, .int .i64 x.ep, .int .i64 x.ed, .string x.km.nm, .string x.km.tl, .string x.km.ar, .slice ao x.ls.length c, .int .i64 x.ct, .bool x.tn.over, .int .i64 x.tn.cd, .string x.tn.tx, .bool x.tn.has, .string x.tn.nm, .int .i64 x.tn.st] := ZM2.set 8 (.slice ao x.ls.length c) (by simp)
 have ZR3 : BlkAt (w2.setCell ⟨w.heap.size, 8, none⟩ (.slice ao x.ls.length c)) (w.heap.size + 1) [.int .i64 0, .int .i64 0, .int .i64 0, .int .i64 0, .int .i64 0, .string ⟨#[]⟩, .string ⟨#[]⟩, .string ⟨#[]⟩, .slice none 0 0, .int .i64 0, .bool false, .int .i64 0, .string ⟨#[]⟩, .bool false, .string ⟨#[]⟩, .int .i64 0] := ZR2.other _ _ (by show w.heap.size ≠ w.heap.size + 1; omega)
 have fR3 : OpnAt (w2.setCell ⟨w.heap.size, 8, none⟩ (.slice ao x.ls.length c)) (w.heap.size + 1) := fR2.set _ _
 have hSome : ∀ i, i < ([.int .i64 x.kd, .int .i64 x.to, .int .i64 x.fr, .int .i64 x.ep, .int .i64 x.ed, .string x.km.nm, .string x.km.tl, .string x.km.ar, .slice ao x.ls.length c, .int .i64 x.ct, .bool x.tn.over, .int .i64 x.tn.cd, .string x.tn.tx, .bool x.tn.has, .string x.tn.nm, .int .i64 x.tn.st] : List Value).length → ((w2.setCell ⟨w.heap.size, 8, none⟩ (.slice ao x.ls.length c)).cell? ⟨w.heap.size + 1, 0 + i, none⟩).isSome = true := fun i hi => by
  rw [Nat.zero_add]
  have hz : i < ([.int .i64 0, .int .i64 0, .int .i64 0, .int .i64 0, .int .i64 0, .string ⟨#[]⟩, .string ⟨#[]⟩, .string ⟨#[]⟩, .slice none 0 0, .int .i64 0, .bool false, .int .i64 0, .string ⟨#[]⟩, .bool false, .string ⟨#[]⟩, .int .i64 0] : List Value).length := hi
  rw [ZR3 i _ (List.getElem?_eq_getElem hz)]
  rfl
 clear ZM ZR fM fR a8 hown0 hown hgrow hlk ZM2 fM2
 go_wp2_with (first | refine wpList_load_blk rfl 48 (.tmp 1) rfl w.heap.size rfl [.int .i64 x.kd, .int .i64 x.to, .int .i64 x.fr, .int .i64 x.ep, .int .i64 x.ed, .string x.km.nm, .string x.km.tl, .string x.km.ar, .slice ao x.ls.length c, .int .i64 x.ct, .bool x.tn.over, .int .i64 x.tn.cd, .string x.tn.tx, .bool x.tn.has, .string x.tn.nm, .int .i64 x.tn.st] _ ZM3 Tryz.underlying48 rfl (by kernel_rfl) ?_ | refine wpList_store_blk rfl 48 (.tmp 2) (.tmp 8) rfl (w.heap.size + 1) 0 rfl [.int .i64 x.kd, .int .i64 x.to, .int .i64 x.fr, .int .i64 x.ep, .int .i64 x.ed, .string x.km.nm, .string x.km.tl, .string x.km.ar, .slice ao x.ls.length c, .int .i64 x.ct, .bool x.tn.over, .int .i64 x.tn.cd, .string x.tn.tx, .bool x.tn.has, .string x.tn.nm, .int .i64 x.tn.st] rfl hSome fR3 (by simp [Value.oneCell']) (by kernel_rfl) rfl ?_)
 have F : BlkAt (fill (w2.setCell ⟨w.heap.size, 8, none⟩ (.slice ao x.ls.length c)) (w.heap.size + 1) 0 [.int .i64 x.kd, .int .i64 x.to, .int .i64 x.fr, .int .i64 x.ep, .int .i64 x.ed, .string x.km.nm, .string x.km.tl, .string x.km.ar, .slice ao x.ls.length c, .int .i64 x.ct, .bool x.tn.over, .int .i64 x.tn.cd, .string x.tn.tx, .bool x.tn.has, .string x.tn.nm, .int .i64 x.tn.st]) (w.heap.size + 1) [.int .i64 x.kd, .int .i64 x.to, .int .i64 x.fr, .int .i64 x.ep, .int .i64 x.ed, .string x.km.nm, .string x.km.tl, .string x.km.ar, .slice ao x.ls.length c, .int .i64 x.ct, .bool x.tn.over, .int .i64 x.tn.cd, .string x.tn.tx, .bool x.tn.has, .string x.tn.nm, .int .i64 x.tn.st] := BlkAt.fill [.int .i64 x.kd, .int .i64 x.to, .int .i64 x.fr, .int .i64 x.ep, .int .i64 x.ed, .string x.km.nm, .string x.km.tl, .string x.km.ar, .slice ao x.ls.length c, .int .i64 x.ct, .bool x.tn.over, .int .i64 x.tn.cd, .string x.tn.tx, .bool x.tn.has, .string x.tn.nm, .int .i64 x.tn.st] [] [.int .i64 0, .int .i64 0, .int .i64 0, .int .i64 0, .int .i64 0, .string ⟨#[]⟩, .string ⟨#[]⟩, .string ⟨#[]⟩, .slice none 0 0, .int .i64 0, .bool false, .int .i64 0, .string ⟨#[]⟩, .bool false, .string ⟨#[]⟩, .int .i64 0] [] 0 ZR3 rfl rfl
 have hBu : But w.heap.size w2 (w2.setCell ⟨w.heap.size, 8, none⟩ (.slice ao x.ls.length c)) := (But.refl _ _).setCell _ _
 have hBF : Below w.heap.size w (fill (w2.setCell ⟨w.heap.size, 8, none⟩ (.slice ao x.ls.length c)) (w.heap.size + 1) 0 [.int .i64 x.kd, .int .i64 x.to, .int .i64 x.fr, .int .i64 x.ep, .int .i64 x.ed, .string x.km.nm, .string x.km.tl, .string x.km.ar, .slice ao x.ls.length c, .int .i64 x.ct, .bool x.tn.over, .int .i64 x.tn.cd, .string x.tn.tx, .bool x.tn.has, .string x.tn.nm, .int .i64 x.tn.st]) := below_fill (by omega) _ _ (hB2.setCell (p := ⟨w.heap.size, 8, none⟩) (Nat.le_refl _) _)
 have HLF : Hid (LkOwn (fill (w2.setCell ⟨w.heap.size, 8, none⟩ (.slice ao x.ls.length c)) (w.heap.size + 1) 0 [.int .i64 x.kd, .int .i64 x.to, .int .i64 x.fr, .int .i64 x.ep, .int .i64 x.ed, .string x.km.nm, .string x.km.tl, .string x.km.ar, .slice ao x.ls.length c, .int .i64 x.ct, .bool x.tn.over, .int .i64 x.tn.cd, .string x.tn.tx, .bool x.tn.has, .string x.tn.nm, .int .i64 x.tn.st]) w.heap.size ao x.ls) := (lkown_fill (w.heap.size + 1) _ (by omega) 0 (lkown_set HLK.out ⟨w.heap.size, 8, none⟩ _ (by show w.heap.size < w.heap.size + 2; omega))).mono (by omega)
 generalize (fill (w2.setCell ⟨w.heap.size, 8, none⟩ (.slice ao x.ls.length c)) (w.heap.size + 1) 0 [.int .i64 x.kd, .int .i64 x.to, .int .i64 x.fr, .int .i64 x.ep, .int .i64 x.ed, .string x.km.nm, .string x.km.tl, .string x.km.ar, .slice ao x.ls.length c, .int .i64 x.ct, .bool x.tn.over, .int .i64 x.tn.cd, .string x.tn.tx, .bool x.tn.has, .string x.tn.nm, .int .i64 x.tn.st]) = V at *
 refine bodyPost_ret (v := .agg ([.int .i64 x.kd, .int .i64 x.to, .int .i64 x.fr, .int .i64 x.ep, .int .i64 x.ed, .string x.km.nm, .string x.km.tl, .string x.km.ar, .slice ao x.ls.length c, .int .i64 x.ct, .bool x.tn.over, .int .i64 x.tn.cd, .string x.tn.tx, .bool x.tn.has, .string x.tn.nm, .int .i64 x.tn.st] : List Value).toArray) (results_blk (P := Tryz.prog) (ty := 48) rfl _ V (w.heap.size + 1) [.int .i64 x.kd, .int .i64 x.to, .int .i64 x.fr, .int .i64 x.ep, .int .i64 x.ed, .string x.km.nm, .string x.km.tl, .string x.km.ar, .slice ao x.ls.length c, .int .i64 x.ct, .bool x.tn.over, .int .i64 x.tn.cd, .string x.tn.tx, .bool x.tn.has, .string x.tn.nm, .int .i64 x.tn.st] _ rfl F Tryz.underlying48 rfl (by kernel_rfl)) rfl ⟨⟨ao, c, rfl, HLF.out⟩, hBF⟩
end Go.Proofs.YtpjpckmfehfniaaGreatDoor.M
