import Derived.Test.YtolihfbnbkaflaaW2
import Derived.Deep.RegionLaw
namespace Go.Proofs.Ytolihfbnbkaflaa
open Go.RowKit
theorem blk_lt {w : World} {b : Nat} {o : Obj} (h : w.heap[b]? = some o) : b < w.heap.size := by
  rcases Nat.lt_or_ge b w.heap.size with h' | h'
  · exact h'
  · simp [Array.getElem?_eq_none h'] at h

theorem ownsRow_below {w w' : World} {base : Nat} {e : TypeId} {size : Nat} {v : Value} {n : Nat} {xs : List Value} (h : w.ownsRow base e size v n xs) (hb : Below w.heap.size w w') : w'.ownsRow base e size v n xs := by
  obtain ⟨h1, h2⟩ := h
  refine ⟨h1, ?_⟩
  rcases h2 with h | ⟨g, cap, cur, hv, hg, hh, hr⟩
  · exact .inl h
  · exact .inr ⟨g, cap, cur, hv, hg, by rw [hb.block g (blk_lt hh)]; exact hh, hr⟩
/-- append to a row of the call's own, as one step of a region that draws its order -/
theorem step_app {P : Program} {ops : Array Oper} {o : Oper} {a : Act} {w : World} {K : Act → World → Prop} {Q : Exit → Act → World → Prop} {E : Prop}
    (hg : o.guard = none) (s x : Operand) (t : TypeId) (hop : o.op = Op.call { callee := Callee.builtin Builtin.append, args := #[s, x], argTypes := #[t, t] })
    (base : Nat) (e : TypeId) (i : TypeInfo) (z : Value) (size bytes : Nat) (h1 : P.underlying t = some (.slice e)) (h2 : P.info? e = some i) (h3 : i.zero = some z) (h4 : i.size = size) (h5 : i.bytes = bytes) (h6 : z.cells.size = size) (h7 : 0 < size)
    (v : Value) (n : Nat) (xs : List Value) (hs : a.eval s = v) (hown : w.ownsRow base e size v n xs)
    (ad : Addr) (m c : Nat) (news : List Value) (hx : a.eval x = .slice (some ad) m c) (hn : news.length = m * size) (hc : ∀ j u, news[j]? = some u → w.cell? (ad.add j) = some u) (h1c : ∀ u ∈ news, u.oneCell' = true)
    (b1 : n + m ≤ maxLen) (b2 : (n + m) * bytes ≤ 140737488355328) (hb : base ≤ w.heap.size)
    (hK : ∀ v' w', w'.ownsRow base e size v' (n + m) (xs ++ news) → w.grownBy w' v.ownBlock → K (a.put o.dst v') w') :
    if Region.wanted o (yielded ops a.tmps) = true then Oper.wp P o a w K Q else E := by
  have hw : Region.wanted o (yielded ops a.tmps) = true := by simp [Region.wanted, hg]
  rw [if_pos hw]
  obtain ⟨v', w', hrun, r1, r2, _⟩ := run_append_own (P := P) w base t o.type e i z size bytes h1 h2 h3 h4 h5 h6 h7 v n xs hown ad m c news hn hc h1c b1 b2 hb
  unfold Oper.wp
  simp [execOp, hop, resolve, invoke, builtin, hs, hx, hrun, Result.andThen]
  exact hK v' w' r1 r2

def fileCells (fs : List F2) : List Value := fs.flatMap fun x => [.string x.nm, .string x.tx]
theorem fileCells_len (fs : List F2) : (fileCells fs).length = fs.length * 2 := by
  induction fs with
  | nil => rfl
  | cons x r ih => unfold fileCells at *; simp only [List.flatMap_cons, List.length_append, List.length_cons, List.length_nil, ih]; omega
theorem fileCells_app (fs gs : List F2) : fileCells (fs ++ gs) = fileCells fs ++ fileCells gs := by simp [fileCells]
theorem fileCells_get (fs : List F2) (i : Nat) (h : i < fs.length) : (fileCells fs)[i * 2]? = some (.string (fs.getD i f2z).nm) ∧ (fileCells fs)[i * 2 + 1]? = some (.string (fs.getD i f2z).tx) := by
  induction fs generalizing i with
  | nil => simp at h
  | cons x r ih =>
    cases i with
    | zero => exact ⟨rfl, rfl⟩
    | succ i =>
      have := ih i (by simpa using h)
      have e : ∀ j, (fileCells (x :: r))[(i + 1) * 2 + j]? = (fileCells r)[i * 2 + j]? := fun j => by
        show ([Value.string x.nm, .string x.tx] ++ fileCells r)[(i + 1) * 2 + j]? = _
        rw [List.getElem?_append_right (by simp; omega)]
        congr 1
        simp; omega
      have e0 := e 0
      simp only [Nat.add_zero] at e0
      rw [e0, e 1]
      exact this
theorem fileCells_one {fs : List F2} : ∀ u ∈ fileCells fs, u.oneCell' = true := by
  intro u hu
  unfold fileCells at hu
  obtain ⟨x, _, hx⟩ := List.mem_flatMap.1 hu
  simp at hx
  rcases hx with rfl | rfl <;> rfl
/-- A row of the call's own, of files. -/
def OwnF (w : World) (base : Nat) (v : Value) (fs : List F2) : Prop := w.ownsRow base 38 2 v fs.length (fileCells fs)
theorem OwnF.form {w : World} {base : Nat} {v : Value} {fs : List F2} (h : OwnF w base v fs) : ∃ a cap, v = .slice a fs.length cap ∧ FilesAt w a fs := by
  have h' := h
  rcases h.2 with ⟨hv, h0⟩ | ⟨g, cap, cur, hv, hg, hh, _⟩
  · exact ⟨none, 0, by rw [hv, h0], .inl (List.length_eq_zero_iff.1 h0)⟩
  · refine ⟨some ⟨g, 0, none⟩, cap, hv, ?_⟩
    subst hv
    refine .inr ⟨g, 0, rfl, blk_lt hh, fun i hi => ?_⟩
    obtain ⟨e0, e1⟩ := fileCells_get fs i hi
    rw [Nat.zero_add, h'.cellAt _ (by omega), h'.cellAt _ (by omega)]
    exact ⟨e0, e1⟩
theorem OwnF.below {w w' : World} {base : Nat} {v : Value} {fs : List F2} (h : OwnF w base v fs) (hb : Below w.heap.size w w') : OwnF w' base v fs := ownsRow_below h hb
/-- The files' cells, one by one. -/
theorem files_cells {w : World} {b off : Nat} {fs : List F2} (h : ∀ i, i < fs.length → w.cell? ⟨b, off + i * 2, none⟩ = some (.string (fs.getD i f2z).nm) ∧ w.cell? ⟨b, off + i * 2 + 1, none⟩ = some (.string (fs.getD i f2z).tx)) (j : Nat) (u : Value) (hj : (fileCells fs)[j]? = some u) : w.cell? ((⟨b, off, none⟩ : Addr).add j) = some u := by
  have hl : j < fs.length * 2 := by rw [← fileCells_len]; exact (List.getElem?_eq_some_iff.1 hj).1
  have e : (⟨b, off, none⟩ : Addr).add j = ⟨b, off + j, none⟩ := by unfold Addr.add; split <;> simp_all
  rw [e]
  obtain ⟨e0, e1⟩ := fileCells_get fs (j / 2) (by omega)
  obtain ⟨h0, h1⟩ := h (j / 2) (by omega)
  rcases Nat.mod_two_eq_zero_or_one j with hm | hm
  · have hj2 : j / 2 * 2 = j := by omega
    rw [hj2] at e0 h0
    rw [e0] at hj; rw [h0]; exact hj
  · have hj2 : j / 2 * 2 + 1 = j := by omega
    rw [hj2] at e1
    rw [Nat.add_assoc, hj2] at h1
    rw [e1] at hj; rw [h1]; exact hj

set_option maxHeartbeats 1000000 in
set_option maxRecDepth 100000 in
theorem c25 (b off cap : Nat) (fs : List F2) (w : World) (hl : fs.length ≤ 1048576) (hbw : b < w.heap.size) (hat : ∀ i, i < fs.length → w.cell? ⟨b, off + i * 2, none⟩ = some (.string (fs.getD i f2z).nm) ∧ w.cell? ⟨b, off + i * 2 + 1, none⟩ = some (.string (fs.getD i f2z).tx)) :
    Calls Try.prog 25 #[.slice (some ⟨b, off, none⟩) fs.length cap] w fun e w' => ∃ v', e = .returned v' ∧ OwnF w' w.heap.size v' fs ∧ Below w.heap.size w w' := by
  obtain ⟨i0, hi, hz0, hz1, hz2⟩ := info_parts info38
  have q27 : ∀ (w : World) (a : Option Addr) (n c n' c' : Nat), (binOp .eql 27 (.slice a n c) (.slice none n' c')).run Try.prog w = .ok (.bool a.isNone) w := fun w a n c n' c' => Lib.run_eql_slice_nil w _ _ a n c n' c' Try.underlying27
  have HC : Hid (∀ j u, (fileCells fs)[j]? = some u → w.cell? ((⟨b, off, none⟩ : Addr).add j) = some u) := files_cells hat
  clear hat
  go_enter Try.func25, Try.ntmps25
  go_wp2_with (at_builtin; refine wpList_append_own _ rfl _ _ 27 rfl w.heap.size 38 i0 (.agg #[.string ⟨#[]⟩, .string ⟨#[]⟩]) 2 32 Try.underlying27 hi hz0 hz1 hz2 rfl (by decide) _ _ _ rfl (World.ownsRow_made w #[] 0 (Nat.le_refl _) (Nat.zero_le _) rfl) ⟨b, off, none⟩ fs.length cap (fileCells fs) rfl ?qc1 ?qc2 ?qc3 ?qc4 ?qc5 ?qc6 ?_)
  case qc1 => exact fileCells_len fs
  case qc2 =>
    intro j u hj
    rw [World.cell?_alloc_lt _ _ _ (by unfold Addr.add; split <;> exact hbw)]
    exact HC.out j u hj
  case qc3 => exact fileCells_one
  case qc4 => unfold maxLen; omega
  case qc5 => omega
  case qc6 => simp
  intro v' w1 hown hgrow hnil
  have H1 : Hid (OwnF w1 w.heap.size v' fs) := hown
  have HB : Hid (Below w.heap.size w w1) := ((Below.refl _ _).alloc (Nat.le_refl _) _).grown hgrow (by simp) (fun k hk => by have := (World.ownsRow_made w (e := 38) (size := 2) #[] 0 (Nat.le_refl _) (Nat.zero_le _) rfl).lt k hk; exact this.1)
  clear hown hgrow hnil
  go_wp2
  go_ret
  exact ⟨v', rfl, H1.out, HB.out⟩
end Go.Proofs.Ytolihfbnbkaflaa
