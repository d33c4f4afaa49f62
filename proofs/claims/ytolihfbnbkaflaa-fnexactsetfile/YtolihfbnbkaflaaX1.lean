import Derived.Test.YtolihfbnbkaflaaW7
import Derived.Laws.OwnMore
namespace Go.Proofs.Ytolihfbnbkaflaa
open Go.RowKit
/-- append to a row of the call's own, of a slice that may be nil, as one step of a region that draws its order -/
theorem step_appG {P : Program} {ops : Array Oper} {o : Oper} {a : Act} {w : World} {K : Act → World → Prop} {Q : Exit → Act → World → Prop} {E : Prop}
    (hg : o.guard = none) (s x : Operand) (t : TypeId) (hop : o.op = Op.call { callee := Callee.builtin Builtin.append, args := #[s, x], argTypes := #[t, t] })
    (base : Nat) (e : TypeId) (i : TypeInfo) (z : Value) (size bytes : Nat) (h1 : P.underlying t = some (.slice e)) (h2 : P.info? e = some i) (h3 : i.zero = some z) (h4 : i.size = size) (h5 : i.bytes = bytes) (h6 : z.cells.size = size) (h7 : 0 < size)
    (v : Value) (n : Nat) (xs : List Value) (hs : a.eval s = v) (hown : w.ownsRow base e size v n xs)
    (ao : Option Addr) (m c : Nat) (news : List Value) (hx : a.eval x = .slice ao m c) (h0 : ao = none → m = 0 ∧ c = 0) (hn : news.length = m * size) (hc : ∀ ad, ao = some ad → ∀ j u, news[j]? = some u → w.cell? (ad.add j) = some u) (h1c : ∀ u ∈ news, u.oneCell' = true)
    (b1 : n + m ≤ maxLen) (b2 : (n + m) * bytes ≤ 140737488355328) (hb : base ≤ w.heap.size)
    (hK : ∀ v' w', w'.ownsRow base e size v' (n + m) (xs ++ news) → w.grownBy w' v.ownBlock → K (a.put o.dst v') w') :
    if Region.wanted o (yielded ops a.tmps) = true then Oper.wp P o a w K Q else E := by
  cases ao with
  | some ad => exact step_app hg s x t hop base e i z size bytes h1 h2 h3 h4 h5 h6 h7 v n xs hs hown ad m c news hx hn (hc ad rfl) h1c b1 b2 hb hK
  | none =>
    obtain ⟨rfl, rfl⟩ := h0 rfl
    have hw : Region.wanted o (yielded ops a.tmps) = true := by simp [Region.wanted, hg]
    rw [if_pos hw]
    have hrun := run_append_owned_none (P := P) (w := w) base t o.type e i size h1 h2 v n xs hown
    have hnl : news = [] := List.length_eq_zero_iff.1 (by rw [hn]; omega)
    subst hnl
    unfold Oper.wp
    simp [execOp, hop, resolve, invoke, builtin, hs, hx, hrun, Result.andThen]
    exact hK v w (by simpa using hown) ⟨rfl, rfl, rfl, Nat.le_refl _, fun _ _ _ => rfl⟩
/-- Where a new file goes among the others. -/
structure KAt (old : List F2) (nm : ByteArray) (k : Nat) : Prop where
  le : k ≤ old.length
  less : ∀ j, j < k → lt (old.getD j f2z).nm nm = true
  stop : k = old.length ∨ lt (old.getD k f2z).nm nm = false
theorem kat_one {old : List F2} {nm : ByteArray} {k k' : Nat} (h : KAt old nm k) (h' : KAt old nm k') : k = k' := by
  rcases Nat.lt_trichotomy k k' with h1 | h1 | h1
  · rcases h.stop with h2 | h2
    · have := h'.le; omega
    · rw [h'.less k h1] at h2; cases h2
  · exact h1
  · rcases h'.stop with h2 | h2
    · have := h.le; omega
    · rw [h.less k' h1] at h2; cases h2
def ins (old : List F2) (k : Nat) (x : F2) : List F2 := old.take k ++ x :: old.drop k
theorem ins_len (old : List F2) (k : Nat) (x : F2) (h : k ≤ old.length) : (ins old k x).length = old.length + 1 := by
  unfold ins; rw [List.length_append, List.length_cons, List.length_take, List.length_drop]; omega
/-- What SetFile answers. -/
def SetR (fs : List F2) (x : F2) (c : Int) (gs : List F2) : Prop :=
  (¬ treeOk fs ∧ c = 1 ∧ gs = []) ∨ (treeOk fs ∧ fileOk x = false ∧ c = 2 ∧ gs = []) ∨ (treeOk fs ∧ fileOk x = true ∧ 40 ≤ (without fs x.nm).length ∧ c = 3 ∧ gs = []) ∨ (treeOk fs ∧ fileOk x = true ∧ (without fs x.nm).length < 40 ∧ c = 0 ∧ ∃ k, KAt (without fs x.nm) x.nm k ∧ gs = ins (without fs x.nm) k x)
theorem setR_one {fs : List F2} {x : F2} {c c' : Int} {gs gs' : List F2} (h : SetR fs x c gs) (k : SetR fs x c' gs') : c' = c ∧ gs' = gs := by
  rcases h with ⟨h1, rfl, rfl⟩ | ⟨h1, h2, rfl, rfl⟩ | ⟨h1, h2, h3, rfl, rfl⟩ | ⟨h1, h2, h3, rfl, i, hi, rfl⟩ <;> rcases k with ⟨k1, rfl, rfl⟩ | ⟨k1, k2, rfl, rfl⟩ | ⟨k1, k2, k3, rfl, rfl⟩ | ⟨k1, k2, k3, rfl, j, hj, rfl⟩
  all_goals first
    | exact ⟨rfl, rfl⟩
    | exact absurd k1 h1
    | exact absurd h1 k1
    | (exact absurd (h2.symm.trans k2) (by decide))
    | (exfalso; omega)
    | (rw [kat_one hi hj]; exact ⟨rfl, rfl⟩)
theorem setR_len {fs : List F2} {x : F2} {c : Int} {gs : List F2} (h : SetR fs x c gs) : gs.length ≤ 40 := by
  rcases h with ⟨h1, rfl, rfl⟩ | ⟨h1, h2, rfl, rfl⟩ | ⟨h1, h2, h3, rfl, rfl⟩ | ⟨h1, h2, h3, rfl, i, hi, rfl⟩
  · simp
  · simp
  · simp
  · rw [ins_len _ _ _ hi.le]; omega
/-- The three blocks of a call that takes a tree and a file and gives a tree and a code. -/
structure ThreeAt (w u : World) (t : Value) (x : F2) (r : Value) : Prop where
  bel : Below w.heap.size w u
  ht : u.heap[w.heap.size]? = some (.cells #[t] 29 (0, 0))
  hf : u.heap[w.heap.size + 1]? = some (.cells #[.string x.nm, .string x.tx] 38 (0, 0))
  hr : u.heap[w.heap.size + 1 + 1]? = some (.cells #[r] 29 (0, 0))
theorem ThreeAt.start (w : World) (t : Value) (x : F2) (r : Value) : ThreeAt w (((w.alloc (.cells #[t] 29)).alloc (.cells #[.string x.nm, .string x.tx] 38)).alloc (.cells #[r] 29)) t x r := by
  refine ⟨(((Below.refl _ _).alloc (Nat.le_refl _) _).alloc (by simp) _).alloc (by simp; omega) _, ?_, ?_, ?_⟩
  · rw [alloc_old (by simp; omega), alloc_old (by simp)]; exact alloc_new rfl _
  · rw [alloc_old (by simp)]; exact alloc_new (by simp) _
  · exact alloc_new (by simp) _
theorem ThreeAt.sz {w u : World} {t r : Value} {x : F2} (h : ThreeAt w u t x r) : w.heap.size + 3 ≤ u.heap.size := blk_lt h.hr
theorem ThreeAt.later {w u u' : World} {t r : Value} {x : F2} (h : ThreeAt w u t x r) (hb : Below u.heap.size u u') : ThreeAt w u' t x r := by
  have := h.sz
  exact ⟨h.bel.trans (hb.mono (by omega)), by rw [hb.block _ (by omega)]; exact h.ht, by rw [hb.block _ (by omega)]; exact h.hf, by rw [hb.block _ (by omega)]; exact h.hr⟩
theorem ThreeAt.but {w u u' : World} {t r : Value} {x : F2} {g : Nat} (h : ThreeAt w u t x r) (hb : But g u u') (hg : w.heap.size + 3 ≤ g) : ThreeAt w u' t x r := by
  have := h.sz
  exact ⟨h.bel.trans (hb.below (by omega) (by omega)), by rw [hb.block _ (by omega) (by omega)]; exact h.ht, by rw [hb.block _ (by omega) (by omega)]; exact h.hf, by rw [hb.block _ (by omega) (by omega)]; exact h.hr⟩
theorem ThreeAt.cells {w u : World} {t r : Value} {x : F2} (h : ThreeAt w u t x r) : u.cell? ⟨w.heap.size, 0, none⟩ = some t ∧ u.cell? ⟨w.heap.size + 1, 0, none⟩ = some (.string x.nm) ∧ u.cell? ⟨w.heap.size + 1, 1, none⟩ = some (.string x.tx) ∧ u.cell? ⟨w.heap.size + 1 + 1, 0, none⟩ = some r ∧ u.frozen? ⟨w.heap.size + 1 + 1, 0, none⟩ = false :=
  ⟨by rw [Lib.cell_of_heap h.ht]; rfl, by rw [Lib.cell_of_heap h.hf]; rfl, by rw [Lib.cell_of_heap h.hf]; rfl, by rw [Lib.cell_of_heap h.hr]; rfl, Lib.frozen_of_heap h.hr 0⟩
theorem grown_below {B : Nat} {w w' : World} {row : Option Nat} (hg : w.grownBy w' row) (hB : B ≤ w.heap.size) (hr : ∀ k, row = some k → B ≤ k) : Below B w w' := (Below.refl B w).grown hg hB hr
/-- A row of one's own behind what turns no block of it. -/
theorem own_below {w w' : World} {B : Nat} {v : Value} {fs : List F2} (h : OwnF w B v fs) {n : Nat} (hb : Below n w w') (hn : ∀ k, v.ownBlock = some k → k < n) : OwnF w' B v fs := by
  obtain ⟨h1, h2⟩ := h
  refine ⟨h1, ?_⟩
  rcases h2 with h | ⟨g, cap, cur, hv, hg, hh, hr⟩
  · exact .inl h
  · exact .inr ⟨g, cap, cur, hv, hg, by rw [hb.block g (hn g (by rw [hv]; rfl))]; exact hh, hr⟩
end Go.Proofs.Ytolihfbnbkaflaa
