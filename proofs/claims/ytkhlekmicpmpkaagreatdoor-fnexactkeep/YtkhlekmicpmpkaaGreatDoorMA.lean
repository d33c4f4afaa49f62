import Derived.Test.YtkhlekmicpmpkaaGreatDoorM9
import Derived.Test.YtkhlekmicpmpkaaGreatDoorM5
namespace Go.Proofs.YtkhlekmicpmpkaaGreatDoor
open Go.RowKit Go.Maps Go.Sort Go.Shelf
attribute [local go_sem] Oper.semAt_some
set_option maxRecDepth 100000
set_option linter.unusedVariables false
theorem c67 (mb : Option Nat) (n : Nat) (w : World) : CallsIn Fence.wide n Tryz.prog 67 #[.map mb] w fun e w' => e = .returned (.func (.func 92) #[] #[.pointer (some ⟨w.heap.size, 0, none⟩)]) ∧ w' = w.alloc (.cells #[.map mb] 101) := by
 refine callsIn_of_wp Tryz.func67 rfl trivial ?_ rfl
 simp only [Tryz.ntmps67, List.size_toArray, List.length_cons, List.length_nil, Nat.reduceAdd, Nat.reduceSub, Array.replicate_succ, Array.replicate_zero, List.push_toArray, List.append_toArray, List.nil_append, List.cons_append]
 gi_wp2
 go_ret
 exact ⟨rfl, rfl⟩
theorem c68 (mb : Option Nat) (n : Nat) (w : World) : CallsIn Fence.wide n Tryz.prog 68 #[.map mb] w fun e w' => e = .returned (.func (.func 95) #[] #[.pointer (some ⟨w.heap.size, 0, none⟩)]) ∧ w' = w.alloc (.cells #[.map mb] 102) := by
 refine callsIn_of_wp Tryz.func68 rfl trivial ?_ rfl
 simp only [Tryz.ntmps68, List.size_toArray, List.length_cons, List.length_nil, Nat.reduceAdd, Nat.reduceSub, Array.replicate_succ, Array.replicate_zero, List.push_toArray, List.append_toArray, List.nil_append, List.cons_append]
 gi_wp2
 go_ret
 exact ⟨rfl, rfl⟩
def gC (gs : List G3) : List Value := gs.flatMap fun g => [.bool g.nm, .string g.tl, .string g.ar]
theorem gC_len (gs : List G3) : (gC gs).length = gs.length * 3 := by
 induction gs with
 | nil => rfl
 | cons x r ih => simp only [gC, List.flatMap_cons, List.length_append] at ih ⊢; rw [ih]; simp; omega
theorem gC_one (gs : List G3) : ∀ u ∈ gC gs, u.oneCell' = true := fun u hu => by
 obtain ⟨g, _, h⟩ := List.mem_flatMap.1 hu
 simp at h
 rcases h with rfl | rfl | rfl <;> rfl
theorem gC_at (gs : List G3) : ∀ k, k < gs.length → (gC gs)[k * 3]? = some (.bool (gs.getD k g3z).nm) ∧ (gC gs)[k * 3 + 1]? = some (.string (gs.getD k g3z).tl) ∧ (gC gs)[k * 3 + 2]? = some (.string (gs.getD k g3z).ar) := by
 induction gs with
 | nil => intro k hk; exact absurd hk (Nat.not_lt_zero _)
 | cons x r ih =>
  intro k hk
  cases k with
  | zero => exact ⟨rfl, rfl, rfl⟩
  | succ k =>
   have := ih k (by simpa using hk)
   have e1 : (k + 1) * 3 = k * 3 + 1 + 1 + 1 := by omega
   rw [e1]
   exact this
theorem gC_src {w : World} {b off : Nat} {gs : List G3} (h : ∀ i, i < gs.length → w.cell? ⟨b, off + i * 3, none⟩ = some (.bool (gs.getD i g3z).nm) ∧ w.cell? ⟨b, off + i * 3 + 1, none⟩ = some (.string (gs.getD i g3z).tl) ∧ w.cell? ⟨b, off + i * 3 + 2, none⟩ = some (.string (gs.getD i g3z).ar)) : ∀ j v, (gC gs)[j]? = some v → w.cell? ((⟨b, off, none⟩ : Addr).add j) = some v := by
 intro j v hj
 rw [adr_add]
 have hlt : j < gs.length * 3 := by rw [← gC_len]; exact (List.getElem?_eq_some_iff.1 hj).1
 obtain ⟨q, hq⟩ : ∃ q, j / 3 = q := ⟨_, rfl⟩
 have hk : q < gs.length := by omega
 obtain ⟨a0, a1, a2⟩ := gC_at gs q hk
 obtain ⟨b0, b1, b2⟩ := h q hk
 have hj3 : j = q * 3 ∨ j = q * 3 + 1 ∨ j = q * 3 + 2 := by omega
 rcases hj3 with e | e | e
 · subst e; rw [hj] at a0; cases a0; exact b0
 · subst e; rw [hj] at a1; cases a1; exact b1
 · subst e; rw [hj] at a2; cases a2; exact b2
theorem info92' : (Tryz.prog.info? 92).map (fun i => (i.zero, i.size, i.bytes)) = some (some (.agg #[.bool false, .string ⟨#[]⟩, .string ⟨#[]⟩]), 3, 40) := by kernel_rfl
theorem gls_row {w : World} {base : Nat} {a : Option Addr} {c : Nat} {gs : List G3} (h : w.ownsRow base 92 3 (.slice a gs.length c) gs.length (gC gs)) : GlsAt w a gs := by
 have hrow := h
 rcases h.2 with ⟨hv, h0⟩ | ⟨g, cap, cur, hv, hg, hh, _⟩
 · exact .inl (List.length_eq_zero_iff.1 h0)
 · simp only [Value.slice.injEq] at hv
   obtain ⟨rfl, _, rfl⟩ := hv
   refine .inr ⟨g, 0, rfl, (Array.getElem?_eq_some_iff.1 hh).1, fun k hk => ?_⟩
   obtain ⟨a0, a1, a2⟩ := gC_at gs k hk
   refine ⟨?_, ?_, ?_⟩
   · rw [Nat.zero_add, hrow.cellAt (k * 3) (by omega)]; exact a0
   · rw [Nat.zero_add, hrow.cellAt (k * 3 + 1) (by omega)]; exact a1
   · rw [Nat.zero_add, hrow.cellAt (k * 3 + 2) (by omega)]; exact a2
theorem c69_some (ad : Addr) (c : Nat) (gs : List G3) (w : World) (hl : gs.length ≤ 1048576) (hsrc : ∀ u, Below w.heap.size w u → ∀ j v, (gC gs)[j]? = some v → u.cell? (ad.add j) = some v) :
 Calls Tryz.prog 69 #[.slice (some ad) gs.length c] w fun e w' => (∃ a' c', e = .returned (.slice a' gs.length c') ∧ w'.ownsRow w.heap.size 92 3 (.slice a' gs.length c') gs.length (gC gs)) ∧ Below w.heap.size w w' := by
 obtain ⟨i0, hi, hz0, hz1, hz2⟩ := info_parts' info92'
 have hnil : ∀ u, (binOp .eql 65 (.slice (some ad) gs.length c) (.slice none 0 0)).run Tryz.prog u = .ok (.bool false) u := fun u => by kernel_rfl
 have HSRC := hidI hsrc
 clear hsrc
 go_enter Tryz.func69, Tryz.ntmps69
 have hmark : True := trivial
 go_wp2_with (refine wpList_app rfl (.tmp 5) (.tmp 6) 65 rfl w.heap.size 92 i0 (.agg #[.bool false, .string ⟨#[]⟩, .string ⟨#[]⟩]) 3 40 Tryz.underlying65 hi hz0 hz1 hz2 rfl (by decide) _ _ _ rfl ((World.ownsRow_made w #[] 0 (Nat.le_refl _) (Nat.zero_le _) rfl)) ad gs.length c (gC gs) rfl (gC_len gs) (HSRC.out _ ((Below.refl _ _).alloc (Nat.le_refl _) _)) (gC_one gs) (by unfold maxLen; omega) (by omega) (by simp) ?_; revert hmark)
 intro v' w2 hown hgrow
 obtain ⟨a', c', rfl⟩ := row_form hown
 have hB2 : Below w.heap.size w w2 := ((Below.refl _ _).alloc (Nat.le_refl _) _).grown hgrow (by simp) (fun kb h => by have h' : some w.heap.size = some kb := h; injection h' with h'; omega)
 go_wp2
 go_ret
 exact ⟨⟨a', c', rfl, hown⟩, hB2⟩
theorem c69_none (c : Nat) (w : World) :
 Calls Tryz.prog 69 #[.slice none 0 c] w fun e w' => e = .returned (.slice none 0 0) ∧ Below w.heap.size w w' := by
 have hnil : ∀ u, (binOp .eql 65 (.slice none 0 c) (.slice none 0 0)).run Tryz.prog u = .ok (.bool true) u := fun u => by kernel_rfl
 go_enter Tryz.func69, Tryz.ntmps69
 go_wp2
 go_ret
 exact ⟨rfl, Below.refl _ _⟩
theorem c69 (a : Option Addr) (c : Nat) (gs : List G3) (w : World) (hl : gs.length ≤ 1048576) (hat : GlsAt w a gs) :
 Calls Tryz.prog 69 #[.slice a gs.length c] w fun e w' => (∃ a' c', e = .returned (.slice a' gs.length c') ∧ w'.ownsRow w.heap.size 92 3 (.slice a' gs.length c') gs.length (gC gs)) ∧ Below w.heap.size w w' := by
 cases a with
 | none =>
  rcases hat with rfl | ⟨b, off, h, _⟩
  · refine (c69_none c w).mono ?_
    rintro e w' ⟨rfl, hb⟩
    exact ⟨⟨none, 0, rfl, World.ownsRow_nil _ _ _ _⟩, hb⟩
  · cases h
 | some ad =>
  refine c69_some ad c gs w hl (fun u hu => ?_)
  rcases hat with rfl | ⟨b, off, h, hlt, hc⟩
  · intro j v hj; simp [gC] at hj
  · cases h
    exact gC_src (fun i hi => ⟨(hu.cell (p := ⟨b, off + i * 3, none⟩) hlt).trans (hc i hi).1, (hu.cell (p := ⟨b, off + i * 3 + 1, none⟩) hlt).trans (hc i hi).2.1, (hu.cell (p := ⟨b, off + i * 3 + 2, none⟩) hlt).trans (hc i hi).2.2⟩)
end Go.Proofs.YtkhlekmicpmpkaaGreatDoor
