import Derived.Test.YtdcgjdgpiogdaaaGreatDoorYJ
namespace Go.Proofs.YtdcgjdgpiogdaaaGreatDoor
open Go.RowKit
def strL (ss : List (List UInt8)) : List Value := ss.map fun l => .string (ofL l)
theorem strL_snoc (ss : List (List UInt8)) (l : List UInt8) : strL (ss ++ [l]) = strL ss ++ [.string (ofL l)] := by simp [strL]
theorem strL_len (ss : List (List UInt8)) : (strL ss).length = ss.length := by simp [strL]
/-- Strings lie at a row's beginning. -/
def LinesAt (w : World) (g : Nat) (ss : List (List UInt8)) : Prop := g < w.heap.size ∧ ∀ i, i < ss.length → w.cell? ⟨g, i, none⟩ = some (.string (ofL (ss.getD i [])))
theorem lines_below {w w' : World} {g : Nat} {ss : List (List UInt8)} (h : LinesAt w g ss) (hb : Below w.heap.size w w') : LinesAt w' g ss :=
  ⟨Nat.lt_of_lt_of_le h.1 hb.size, fun i hi => by rw [hb.cell (by exact h.1)]; exact h.2 i hi⟩
theorem lines_of_owns {w : World} {base g k cp : Nat} {ss : List (List UInt8)} (h : w.ownsRow base 9 1 (.slice (some ⟨g, 0, none⟩) k cp) k (strL ss)) (hl : ss.length = k) : LinesAt w g ss := by
  refine ⟨(h.lt g rfl).2, fun i hi => ?_⟩
  rw [h.cellAt i (by omega)]
  simp [strL, hi]
theorem own_formF {w : World} {base : Nat} {e : TypeId} {size : Nat} {v : Value} {n : Nat} {xs : List Value} (h : w.ownsRow base e size v n xs) (hn : 0 < n) : ∃ g cp, v = .slice (some ⟨g, 0, none⟩) n cp := by
  rcases h.2 with ⟨_, h0⟩ | ⟨g, cap, cur, hv, _⟩
  · omega
  · exact ⟨g, cap, hv⟩
theorem info9 : (Tryz.prog.info? 9).map (fun i => (i.zero, i.size, i.bytes)) = some (some (.string ⟨#[]⟩), 1, 16) := by kernel_rfl

theorem own_under {w w' : World} {B e size n : Nat} {v : Value} {xs : List Value} (h : w.ownsRow B e size v n xs) (hb : Below w.heap.size w w') : w'.ownsRow B e size v n xs := by
  refine ⟨h.1, ?_⟩
  rcases h.2 with h0 | ⟨g, cap, cur, hv, hg, hh, r⟩
  · exact .inl h0
  · refine .inr ⟨g, cap, cur, hv, hg, ?_, r⟩
    rw [hb.block g (h.lt g (by rw [hv]; rfl)).2]; exact hh
theorem own_cap {w : World} {B e size n m g cp : Nat} {xs : List Value} (h : w.ownsRow B e size (.slice (some ⟨g, 0, none⟩) m cp) n xs) : n ≤ cp := by
  rcases h.2 with ⟨h0, _⟩ | ⟨g', cap, cur, hv, _, _, hc, _⟩
  · cases h0
  · cases hv; exact hc
theorem cells_get (ns : List Int) (k : Nat) (h : k < ns.length) : ns[k]? = some (ns.getD k 0) := by simp [h]
theorem mem_getD (ns : List Int) (k : Nat) (h : k < ns.length) : ns.getD k 0 ∈ ns := by simp [h]
theorem take_map (ns : List Int) (k : Nat) (h : k < ns.length) : (ns.take (k + 1)).map dec = (ns.take k).map dec ++ [dec (ns.getD k 0)] := by
  rw [List.take_succ_eq_append_getElem h, List.map_append]
  have e : ns.getD k 0 = ns[k] := by simp [h]
  rw [e]; rfl
theorem join_le : ∀ (ls : List (List UInt8)), (∀ l ∈ ls, l.length ≤ 4) → (Lib.join ls [32]).length ≤ 5 * ls.length
  | [], _ => by simp [Lib.join]
  | [l], h => by have := h l (by simp); simp [Lib.join]; omega
  | l :: m :: r, h => by
    have h1 := h l (by simp)
    have h2 := join_le (m :: r) (fun x hx => h x (by simp at hx ⊢; exact .inr hx))
    simp [Lib.join] at h2 ⊢
    omega
theorem join_call (ns : List Int) (g cp : Nat) (w : World) (hcap : ns.length ≤ cp) (h : LinesAt w g (ns.map dec)) (hl : ns.length ≤ 8) (h1 : 1 ≤ ns.length) (hn : ∀ n ∈ ns, 0 ≤ n ∧ n ≤ 1000) :
    Calls Tryz.prog 119 #[.slice (some ⟨g, 0, none⟩) ns.length cp, .string ⟨#[32]⟩] w fun e w' => e = .returned (.string (ofL (Lib.join (ns.map dec) [32]))) ∧ Below w.heap.size w w' := by
  have e : (ns.map (fun n => ofL (dec n))).map (·.data.toList) = ns.map dec := by rw [List.map_map]; rfl
  have hj := join_le (ns.map dec) (by intro l hl'; obtain ⟨n, hm, rfl⟩ := List.mem_map.1 hl'; have := hn n hm; exact dec_small n this.1 this.2)
  have := Tryz.strings_Join g 0 cp (ns.map (fun n => ofL (dec n))) ⟨#[32]⟩ w (by
    intro j x hx
    rw [List.getElem?_map] at hx
    obtain ⟨n, hn', rfl⟩ := Option.map_eq_some_iff.1 hx
    have hjl : j < ns.length := by
      rcases Nat.lt_or_ge j ns.length with h' | h'
      · exact h'
      · rw [List.getElem?_eq_none h'] at hn'; cases hn'
    have h2 := h.2 j (by simpa using hjl)
    rw [Nat.zero_add, h2]
    congr 2
    simp [hn']) h.1 (by simp; omega) (by simpa using hcap) (by rw [e]; simp only [List.length_map] at hj; exact Nat.le_trans hj (by omega))
  rw [List.length_map, e] at this
  exact this
set_option maxHeartbeats 2000000 in
set_option maxRecDepth 100000 in
theorem c99 (bk o cp : Nat) (ns : List Int) (w : World) (hp : Pow w) (hc : ∀ (j : Nat) n, ns[j]? = some n → w.cell? ⟨bk, o + j, none⟩ = some (.int .i64 n)) (hbk : bk < w.heap.size) (hns : ∀ n ∈ ns, 0 ≤ n ∧ n ≤ 1000) (hl : ns.length ≤ 8) (hl1 : 1 ≤ ns.length) :
    Calls Tryz.prog 99 #[.slice (some ⟨bk, o, none⟩) ns.length cp] w fun e w' => e = .returned (.string (ofL (Lib.join (ns.map dec) [32]))) ∧ Below w.heap.size w w' := by
  obtain ⟨i0, hi, hz0, hz1, hz2⟩ := info_parts info9
  have HP : Hid (Pow w) := hp
  have HC : Hid (∀ (j : Nat) n, ns[j]? = some n → w.cell? ⟨bk, o + j, none⟩ = some (.int .i64 n)) := hc
  have HN : Hid (∀ n ∈ ns, 0 ≤ n ∧ n ≤ 1000) := hns
  clear hp hc hns
  go_enter Tryz.func99, Tryz.ntmps99
  go_wp2_with fail
  go_loopw [3, 8] (fun v i wr => ∃ (k : Nat), k ≤ ns.length ∧ i = .int .i64 k ∧ wr.ownsRow w.heap.size 9 1 v k (strL ((ns.take k).map dec)) ∧ Below w.heap.size w wr) (fun _ i _ => ns.length - (intOf i).toNat)
  case atStart => exact ⟨0, Nat.zero_le _, rfl, ⟨rfl, .inl ⟨rfl, rfl⟩⟩, Below.refl _ _⟩
  case round =>
    obtain ⟨k, hk, rfl, hown, hb⟩ := hrel
    by_cases hlt : k < ns.length
    · have hcell : wr.cell? ⟨bk, o + k, none⟩ = some (.int .i64 (ns.getD k 0)) := (hb.cell (by exact hbk)).trans (HC.out k _ (cells_get ns k hlt))
      have hr := HN.out _ (mem_getD ns k hlt)
      have HS : Hid ((ns.take (k + 1)).map dec = (ns.take k).map dec ++ [dec (ns.getD k 0)]) := take_map ns k hlt
      have HPr : Hid (Pow wr) := pow_below HP.out hb
      generalize ns.getD k 0 = n at *
      generalize (ns.take k).map dec = ds at *
      go_wp2_with fail
      refine (c118 n _ hr.1 (by omega) (pow_below HPr.out ?drw)).mono ?_
      case drw => first | exact Below.refl _ _ | exact (Below.refl _ _).drew | exact (Below.refl _ _).drew.drew
      rintro e w1 ⟨rfl, hb1⟩
      have HB1 : Hid (Below wr.heap.size wr w1) := by first | exact hb1 | exact ((Below.refl _ _).drew).trans hb1
      have hown1 : w1.ownsRow w.heap.size 9 1 u3 k (strL ds) := own_under hown HB1.out
      have hz1' : wr.heap.size ≤ w1.heap.size := HB1.out.size
      have hz0' : w.heap.size ≤ wr.heap.size := hb.size
      clear hb1 hown
      go_wp2_with (at_builtin; refine wpList_append_own _ rfl _ _ 80 rfl w.heap.size 9 i0 (.string ⟨#[]⟩) 1 16 Tryz.underlying80 hi hz0 hz1 hz2 rfl (by decide) _ _ _ rfl (hown1.alloc _) ⟨w1.heap.size, 0, none⟩ 1 1 [_] rfl rfl (cell_one_new _ _ _) (by intro u hu; simp at hu; subst hu; rfl) (by unfold maxLen; omega) (by omega) (by simp; omega) ?_; intro v' w2 hown' hgrow _)
      go_roundw
      case rel =>
        have hB2 : Below w.heap.size w w2 := ((hb.trans (HB1.out.mono hb.size)).alloc (by omega) _).grown hgrow (by simp; omega) (fun j hj => (hown1.lt j hj).1)
        refine ⟨k + 1, by omega, by go_num, ?_, hB2⟩
        rw [HS.out, strL_snoc]
        exact hown'
      case measure => simp [intOf]; omega
    · have HK : Hid ((ns.take k).map dec = ns.map dec) := by rw [List.take_of_length_le (by omega)]; rfl
      obtain rfl : k = ns.length := by omega
      rw [HK.out] at hown
      obtain ⟨g, cp', hvv⟩ := own_formF hown (by omega)
      subst hvv
      have hL := lines_of_owns hown (by simp)
      go_wp2_with fail
      refine (join_call ns g cp' _ (own_cap hown) hL hl hl1 HN.out).mono ?_
      rintro e w2 ⟨rfl, hb2⟩
      go_wp2
      go_ret
      exact ⟨rfl, hb.trans (hb2.mono hb.size)⟩
end Go.Proofs.YtdcgjdgpiogdaaaGreatDoor
