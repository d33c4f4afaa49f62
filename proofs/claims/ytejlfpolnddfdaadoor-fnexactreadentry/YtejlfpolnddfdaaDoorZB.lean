import Derived.Test.YtejlfpolnddfdaaDoorZA
import Derived.Test.YtejlfpolnddfdaaDoorX5
import Derived.Test.YtejlfpolnddfdaaDoorP4
namespace Go.Proofs.YtejlfpolnddfdaaDoor
open Go.RowKit
/-- The cells of looks. -/
def lkC (is : List L4) : List Value := is.flatMap fun x => [.bool x.has, .string x.nm, .int .i64 x.cd, .string x.tx]
theorem lkC_len (is : List L4) : (lkC is).length = is.length * 4 := by
  induction is with
  | nil => rfl
  | cons x is ih =>
    show ([_, _, _, _] ++ lkC is).length = _
    rw [List.length_append, ih]
    simp; omega
theorem lkC_one (is : List L4) : ∀ u ∈ lkC is, u.oneCell' = true := by
  intro u hu
  obtain ⟨x, _, hx⟩ := List.mem_flatMap.1 hu
  simp at hx
  rcases hx with rfl | rfl | rfl | rfl <;> rfl
theorem lkC_get (is : List L4) : ∀ i, i < is.length → (lkC is)[i * 4]? = some (.bool (is.getD i l4z).has) ∧ (lkC is)[i * 4 + 1]? = some (.string (is.getD i l4z).nm) ∧ (lkC is)[i * 4 + 2]? = some (.int .i64 (is.getD i l4z).cd) ∧ (lkC is)[i * 4 + 3]? = some (.string (is.getD i l4z).tx) := by
  induction is with
  | nil => intro i h; exact absurd h (Nat.not_lt_zero _)
  | cons x is ih =>
    intro i h
    cases i with
    | zero => exact ⟨rfl, rfl, rfl, rfl⟩
    | succ i =>
      have hi : i < is.length := by simpa using h
      have k := ih i hi
      have e : ∀ j, (lkC (x :: is))[(i + 1) * 4 + j]? = (lkC is)[i * 4 + j]? := fun j => by
        show ([_, _, _, _] ++ lkC is)[(i + 1) * 4 + j]? = _
        rw [List.getElem?_append_right (by simp; omega)]
        congr 1
        simp; omega
      have e0 := e 0
      simp only [Nat.add_zero] at e0
      rw [e0, e 1, e 2, e 3]
      simpa using k
theorem lkC_src {w : World} {b off : Nat} {is : List L4} (h : ∀ i, i < is.length → w.cell? ⟨b, off + i * 4, none⟩ = some (.bool (is.getD i l4z).has) ∧ w.cell? ⟨b, off + i * 4 + 1, none⟩ = some (.string (is.getD i l4z).nm) ∧ w.cell? ⟨b, off + i * 4 + 2, none⟩ = some (.int .i64 (is.getD i l4z).cd) ∧ w.cell? ⟨b, off + i * 4 + 3, none⟩ = some (.string (is.getD i l4z).tx)) :
    ∀ j u, (lkC is)[j]? = some u → w.cell? ((⟨b, off, none⟩ : Addr).add j) = some u := by
  intro j u hu
  have hj : j < is.length * 4 := by rw [← lkC_len]; exact (List.getElem?_eq_some_iff.1 hu).1
  have k := lkC_get is (j / 4) (by omega)
  have c := h (j / 4) (by omega)
  have ea : (⟨b, off, none⟩ : Addr).add j = ⟨b, off + j, none⟩ := by unfold Addr.add; split <;> simp_all
  rw [ea]
  have hm : j % 4 = 0 ∨ j % 4 = 1 ∨ j % 4 = 2 ∨ j % 4 = 3 := by omega
  rcases hm with hm | hm | hm | hm
  · have e : j = j / 4 * 4 := by omega
    have e2 : off + j = off + j / 4 * 4 := by omega
    rw [e2, c.1, ← hu]
    rw [show (lkC is)[j]? = (lkC is)[j / 4 * 4]? by rw [← e], k.1]
  · have e : j = j / 4 * 4 + 1 := by omega
    have e2 : off + j = off + j / 4 * 4 + 1 := by omega
    rw [e2, c.2.1, ← hu]
    rw [show (lkC is)[j]? = (lkC is)[j / 4 * 4 + 1]? by rw [← e], k.2.1]
  · have e : j = j / 4 * 4 + 2 := by omega
    have e2 : off + j = off + j / 4 * 4 + 2 := by omega
    rw [e2, c.2.2.1, ← hu]
    rw [show (lkC is)[j]? = (lkC is)[j / 4 * 4 + 2]? by rw [← e], k.2.2.1]
  · have e : j = j / 4 * 4 + 3 := by omega
    have e2 : off + j = off + j / 4 * 4 + 3 := by omega
    rw [e2, c.2.2.2, ← hu]
    rw [show (lkC is)[j]? = (lkC is)[j / 4 * 4 + 3]? by rw [← e], k.2.2.2]
/-- Looks in a block of the call's own, that may be written. -/
structure LkOwn (w : World) (B : Nat) (ao : Option Addr) (is : List L4) : Prop where
  at' : LksAt w ao is
  own : is = [] ∨ ∃ g, ao = some ⟨g, 0, none⟩ ∧ B ≤ g ∧ Open4 w g is.length
theorem own_lks {w : World} {B : Nat} {v : Value} {n : Nat} {is : List L4} (h : w.ownsRow B 43 4 v n (lkC is)) (hn : n = is.length) : ∃ ao c, v = .slice ao n c ∧ LkOwn w B ao is := by
  subst hn
  have h' := h
  obtain ⟨h1, h2⟩ := h
  rcases h2 with ⟨rfl, h0⟩ | ⟨g, cp, cur, rfl, hg, hh, _⟩
  · have e : is = [] := List.length_eq_zero_iff.1 h0
    subst e
    exact ⟨none, 0, rfl, .inl rfl, .inl rfl⟩
  · have hlt : g < w.heap.size := blk_lt hh
    refine ⟨some ⟨g, 0, none⟩, cp, rfl, .inr ⟨g, 0, rfl, hlt, fun i hi => ?_⟩, .inr ⟨g, rfl, hg, hlt, fun j hj => ?_, fun j => h'.frozenAt j⟩⟩
    · have k := lkC_get is i hi
      simp only [Nat.zero_add]
      rw [h'.cellAt _ (by omega), h'.cellAt _ (by omega), h'.cellAt _ (by omega), h'.cellAt _ (by omega)]
      exact k
    · rw [h'.cellAt j hj]
      have : j < (lkC is).length := by rw [lkC_len]; exact hj
      exact ⟨_, List.getElem?_eq_getElem this⟩
/-- append to a row of the call's own, as one step of a region whose order is the text's -/
theorem wpList_app {P : Program} {ops : Array Oper} {rest : List Oper} {o : Oper} {a : Act} {w : World} {Q : Exit → Act → World → Prop}
    (hgd : o.guard = none) (s x : Operand) (t : TypeId) (hop : o.op = Op.call { callee := Callee.builtin Builtin.append, args := #[s, x], argTypes := #[t, t] })
    (base : Nat) (e : TypeId) (i : TypeInfo) (z : Value) (size bytes : Nat) (h1 : P.underlying t = some (.slice e)) (h2 : P.info? e = some i) (h3 : i.zero = some z) (h4 : i.size = size) (h5 : i.bytes = bytes) (h6 : z.cells.size = size) (h7 : 0 < size)
    (v : Value) (n : Nat) (xs : List Value) (hs : a.eval s = v) (hown : w.ownsRow base e size v n xs)
    (ad : Addr) (m c : Nat) (news : List Value) (hx : a.eval x = .slice (some ad) m c) (hn : news.length = m * size) (hc : ∀ j u, news[j]? = some u → w.cell? (ad.add j) = some u) (h1c : ∀ u ∈ news, u.oneCell' = true)
    (b1 : n + m ≤ maxLen) (b2 : (n + m) * bytes ≤ 140737488355328) (hb : base ≤ w.heap.size)
    (hK : ∀ v' w', w'.ownsRow base e size v' (n + m) (xs ++ news) → w.grownBy w' v.ownBlock → wpList P ops Q rest (a.put o.dst v') w') : wpList P ops Q (o :: rest) a w := by
  refine wpList_plain hgd fun K hK' => ?_
  obtain ⟨v', w', hrun, r1, r2, _⟩ := run_append_own (P := P) w base t o.type e i z size bytes h1 h2 h3 h4 h5 h6 h7 v n xs hown ad m c news hn hc h1c b1 b2 hb
  unfold Oper.wp
  simp [execOp, hop, resolve, invoke, builtin, hs, hx, hrun, Result.andThen]
  exact hK' _ _ (hK v' w' r1 r2)
theorem LkOwn.mono {w : World} {B B' : Nat} {ao : Option Addr} {is : List L4} (h : LkOwn w B ao is) (hB : B' ≤ B) : LkOwn w B' ao is :=
  ⟨h.at', h.own.imp id fun ⟨g, h1, h2, h3⟩ => ⟨g, h1, Nat.le_trans hB h2, h3⟩⟩
theorem lkown_set {w : World} {B : Nat} {ao : Option Addr} {is : List L4} (h : LkOwn w B ao is) (p : Addr) (v : Value) (hp : p.block < B) : LkOwn (w.setCell p v) B ao is := by
  rcases h.own with rfl | ⟨g, rfl, hg, ho⟩
  · exact ⟨.inl rfl, .inl rfl⟩
  · have hne : ∀ j, p ≠ (⟨g, j, none⟩ : Addr) := fun j e => by rw [e] at hp; have : g < B := hp; omega
    have hc : ∀ j, (w.setCell p v).cell? ⟨g, j, none⟩ = w.cell? ⟨g, j, none⟩ := fun j => World.cell?_setCell_other _ _ _ _ (hne j)
    refine ⟨?_, .inr ⟨g, rfl, hg, by simpa using ho.1, fun j hj => by rw [hc]; exact ho.2.1 j hj, fun j => by simpa using ho.2.2 j⟩⟩
    rcases h.at' with h1 | ⟨b, off, h1, h2, h3⟩
    · exact .inl h1
    · injection h1 with h1; injection h1 with h1 h4; subst h1; subst h4
      exact .inr ⟨g, 0, rfl, by simpa using h2, fun i hi => by rw [hc, hc, hc, hc]; exact h3 i hi⟩
theorem lkown_fill {B : Nat} {ao : Option Addr} {is : List L4} (b : Nat) (vs : List Value) (hb : b < B) : ∀ {w : World} (j : Nat), LkOwn w B ao is → LkOwn (fill w b j vs) B ao is := by
  induction vs with
  | nil => intro w j h; exact h
  | cons v vs ih => intro w j h; exact ih (j + 1) (lkown_set h ⟨b, j, none⟩ v hb)
theorem lk_src {w : World} {b : Nat} {is : List L4} (hat : LksAt w (some ⟨b, 0, none⟩) is) : ∀ u, Below w.heap.size w u → ∀ j v, (lkC is)[j]? = some v → u.cell? ((⟨b, 0, none⟩ : Addr).add j) = some v := by
  rcases hat with rfl | ⟨b', off', h1, h2, h3⟩
  · intro u hu j v hv; simp [lkC] at hv
  · injection h1 with h1; injection h1 with h1 h4; subst h1; subst h4
    intro u hu j v hv
    rw [hu.cell (by unfold Addr.add; split <;> exact h2)]; exact lkC_src h3 j v hv
end Go.Proofs.YtejlfpolnddfdaaDoor
