import Derived.Test.YtlfokigiejcfoaaGreatDoorW4
import Derived.Deep.RegionHeld3
namespace Go.Proofs.YtlfokigiejcfoaaGreatDoor
open Go.RowKit
/-- The worker number i + 1, new. -/
def wkL (i : Nat) : List Value := [.int .i64 ((i : Int) + 1), .bool true, .bool false, .int .i64 0, .int .i64 0, .int .i64 0, .int .i64 0, .int .i64 0, .string ⟨#[]⟩, .string ⟨#[]⟩, .string ⟨#[]⟩, .slice none 0 0, .int .i64 0, .bool false, .int .i64 0, .string ⟨#[]⟩, .bool false, .string ⟨#[]⟩, .int .i64 0]
theorem wkL_len (i : Nat) : (wkL i).length = 19 := rfl
def wkC : Nat → List Value
  | 0 => []
  | n + 1 => wkC n ++ wkL n
theorem wkC_len (n : Nat) : (wkC n).length = n * 19 := by
  induction n with
  | zero => rfl
  | succ n ih => rw [wkC, List.length_append, ih, wkL_len]; omega
theorem wkC_get (n : Nat) : ∀ i, i < n → ∀ j v, (wkL i)[j]? = some v → (wkC n)[i * 19 + j]? = some v := by
  induction n with
  | zero => intro i h; omega
  | succ n ih =>
    intro i hi j v hv
    have hj : j < 19 := by have := (List.getElem?_eq_some_iff.1 hv).1; rwa [wkL_len] at this
    rw [wkC]
    by_cases h : i < n
    · rw [List.getElem?_append_left (by rw [wkC_len]; omega)]; exact ih i h j v hv
    · obtain rfl : i = n := by omega
      rw [List.getElem?_append_right (by rw [wkC_len]; omega), wkC_len, ← hv]
      congr 1
      omega
/-- A block holds n new workers. -/
structure RW (u : World) (g n : Nat) : Prop where
  lt : g < u.heap.size
  cell : ∀ i, i < n → ∀ j v, (wkL i)[j]? = some v → u.cell? ⟨g, i * 19 + j, none⟩ = some v
theorem RW.below {u u' : World} {g n N : Nat} (h : RW u g n) (hb : Below N u u') (hN : g < N) : RW u' g n :=
  ⟨Nat.lt_of_lt_of_le h.lt hb.size, fun i hi j v hv => (hb.cell (p := ⟨g, i * 19 + j, none⟩) hN).trans (h.cell i hi j v hv)⟩
theorem own_wk {u : World} {base n : Nat} {v : Value} (h : u.ownsRow base 56 19 v n (wkC n)) (hn : 0 < n) : ∃ g c, v = .slice (some ⟨g, 0, none⟩) n c ∧ base ≤ g ∧ RW u g n ∧ ∀ i, u.frozen? ⟨g, i, none⟩ = false := by
  have h' := h
  rcases h.2 with ⟨_, h0⟩ | ⟨g, cap, cur, hv, hg, hh, _⟩
  · omega
  · subst hv
    refine ⟨g, cap, rfl, hg, ⟨(Array.getElem?_eq_some_iff.1 hh).1, fun i hi j v hv => ?_⟩, fun i => h'.frozenAt i⟩
    have hj : j < 19 := by have := (List.getElem?_eq_some_iff.1 hv).1; rwa [wkL_len] at this
    rw [h'.cellAt _ (by omega)]
    exact wkC_get n i hi j v hv
/-- One worker of each row. -/
def RWk (u : World) (g g' k : Nat) : Prop := (∀ j v, (wkL k)[j]? = some v → u.cell? ((⟨g, k * 19, none⟩ : Addr).add j) = some v) ∧ ∀ j v, (wkL k)[j]? = some v → u.cell? ((⟨g', k * 19, none⟩ : Addr).add j) = some v
theorem run_loadVar_at {P : Program} (w : World) (ad : Addr) (ty : TypeId) (cs : List Value) (d : TypeDesc) (hc : ∀ j v, cs[j]? = some v → w.cell? (ad.add j) = some v)
    (hu : P.underlying ty = some d) (hd : (match d with | .struct _ | .array _ _ => true | _ => false) = true) (hi : (P.info? ty).map (·.size) = some cs.length) :
    (loadVar ty ad).run P w = .ok (.agg cs.toArray) w := by
  have hl : (loadCells ad cs.length).run P w = .ok cs.toArray w := run_loadCells_list (P := P) w ad cs hc
  cases hq : P.info? ty with
  | none => simp [hq] at hi
  | some i =>
    have hs : i.size = cs.length := by simpa [hq] using hi
    have hagg : (isAgg ty).run P w = .ok true w := by
      unfold isAgg
      rw [Sem.run_bind, run_underlying hu w]
      cases d <;> simp_all
    simp [loadVar, Sem.run_bind, hagg, sizeOf, typeInfo, hq, hs, hl]
theorem load_op {P : Program} {w : World} {a : Act} {o : Oper} {ty : TypeId} {x : Operand} {ad : Addr} {v : Value} (ho : o.op = .load ty x) (hx : a.eval x = .pointer (some ad)) (h : (loadVar ty ad).run P w = .ok v w) : (execOp a.eval o).run P w = .ok (.value v) w := by
  unfold execOp
  simp only [ho, hx, Instr.loadAt, Instr.sureAddr, Sem.run_bind, Sem.run_pure, Result.andThen_ok, h]
set_option maxHeartbeats 8000000 in
set_option maxRecDepth 100000 in
theorem c13 (n g g' cap cap' : Nat) (w : World) (hn : n ≤ 1000) (hr : RW w g n) (hr' : RW w g' n) :
    Calls Tryz.prog 13 #[.slice (some ⟨g, 0, none⟩) n cap, .slice (some ⟨g', 0, none⟩) n cap'] w fun e w' => e = .returned (.bool true) ∧ Below w.heap.size w w' := by
  have HC := hidI hr
  have HC' := hidI hr'
  clear hr hr'
  go_enter Tryz.func13, Tryz.ntmps13
  go_wp2_with fail
  go_loopw [5] (fun i wr => ∃ (k : Nat), k ≤ n ∧ i = .int .i64 k ∧ Below w.heap.size w wr) (fun i _ => n - (intOf i).toNat)
  case atStart => exact ⟨0, Nat.zero_le _, rfl, Below.refl _ _⟩
  case round =>
    obtain ⟨k, hk, rfl, hb⟩ := hrel
    by_cases hlt : k < n
    · have S0 : ∀ u, Below w.heap.size w u → RWk u g g' k := fun u hu => ⟨fun j v hv => by rw [M.adr_add]; exact (HC.out.below hu HC.out.lt).cell k hlt j v hv, fun j v hv => by rw [M.adr_add]; exact (HC'.out.below hu HC'.out.lt).cell k hlt j v hv⟩
      have hbd : Below w.heap.size w wr.drew := hb.drew
      go_wp2_with fail
      refine wp_region_held_drew (S := (fun u => RWk u g g' k)) (by kernel_rfl) ?_ (fun hHeld => ?_)
      · exact S0 _ hbd
      refine wpAnyH_take (i := 0) (oi := { dst := some 17, op := Op.move (Operand.tmp 0), type := 36, pos := "exact.go:549", after := #[], guard := none }) (v := ?_) rfl (by kernel_rfl) (by kernel_rfl) (by kernel_rfl) (fun _ _ _ h => h) (Or.inl ⟨by rfl, ?_⟩) (by assumption) ?_
      rotate_left
      · intro wq hSw
        (try dsimp only at hSw)
        go_simp
        try with_reducible rfl
      try simp only [Act.put, List.setIfInBounds_toArray, List.set_cons_zero, List.set_cons_succ]
      refine wpAnyH_take (i := 1) (oi := { dst := some 18, op := Op.move (Operand.tmp 5), type := 3, pos := "exact.go:549", after := #[], guard := none }) (v := ?_) rfl (by kernel_rfl) (by kernel_rfl) (by kernel_rfl) (fun _ _ _ h => h) (Or.inl ⟨by rfl, ?_⟩) (by assumption) ?_
      rotate_left
      · intro wq hSw
        (try dsimp only at hSw)
        go_simp
        try with_reducible rfl
      try simp only [Act.put, List.setIfInBounds_toArray, List.set_cons_zero, List.set_cons_succ]
      refine wpAnyH_take (i := 2) (oi := { dst := some 19, op := Op.indexAddr 36 (Operand.tmp 17) (Operand.tmp 18), type := 0, pos := "exact.go:549", after := #[{ on := 0, ground := Ground.data }, { on := 1, ground := Ground.data }], guard := none }) (v := ?_) rfl (by kernel_rfl) (by kernel_rfl) (by kernel_rfl) (fun _ _ _ h => h) (Or.inl ⟨by rfl, ?_⟩) (by assumption) ?_
      rotate_left
      · intro wq hSw
        (try dsimp only at hSw)
        go_simp
        try with_reducible rfl
      try simp only [Act.put, List.setIfInBounds_toArray, List.set_cons_zero, List.set_cons_succ]
      refine wpAnyH_take (i := 3) (oi := { dst := some 20, op := Op.load 56 (Operand.tmp 19), type := 56, pos := "exact.go:549", after := #[{ on := 2, ground := Ground.data }], guard := none }) (v := .agg (wkL k).toArray) rfl (by kernel_rfl) (by kernel_rfl) (by kernel_rfl) (fun _ _ _ h => h) (Or.inl ⟨by rfl, ?_⟩) (by assumption) ?_
      · intro wq hSw
        exact load_op rfl rfl (run_loadVar_at wq _ 56 (wkL k) _ hSw.1 Tryz.underlying56 rfl (by kernel_rfl))
      try simp only [Act.put, List.setIfInBounds_toArray, List.set_cons_zero, List.set_cons_succ]
      refine wpAnyH_take (i := 4) (oi := { dst := some 21, op := Op.move (Operand.tmp 1), type := 36, pos := "exact.go:549", after := #[], guard := none }) (v := ?_) rfl (by kernel_rfl) (by kernel_rfl) (by kernel_rfl) (fun _ _ _ h => h) (Or.inl ⟨by rfl, ?_⟩) (by assumption) ?_
      rotate_left
      · intro wq hSw
        (try dsimp only at hSw)
        go_simp
        try with_reducible rfl
      try simp only [Act.put, List.setIfInBounds_toArray, List.set_cons_zero, List.set_cons_succ]
      refine wpAnyH_take (i := 5) (oi := { dst := some 22, op := Op.move (Operand.tmp 5), type := 3, pos := "exact.go:549", after := #[], guard := none }) (v := ?_) rfl (by kernel_rfl) (by kernel_rfl) (by kernel_rfl) (fun _ _ _ h => h) (Or.inl ⟨by rfl, ?_⟩) (by assumption) ?_
      rotate_left
      · intro wq hSw
        (try dsimp only at hSw)
        go_simp
        try with_reducible rfl
      try simp only [Act.put, List.setIfInBounds_toArray, List.set_cons_zero, List.set_cons_succ]
      refine wpAnyH_take (i := 6) (oi := { dst := some 23, op := Op.indexAddr 36 (Operand.tmp 21) (Operand.tmp 22), type := 0, pos := "exact.go:549", after := #[{ on := 4, ground := Ground.data }, { on := 5, ground := Ground.data }], guard := none }) (v := ?_) rfl (by kernel_rfl) (by kernel_rfl) (by kernel_rfl) (fun _ _ _ h => h) (Or.inl ⟨by rfl, ?_⟩) (by assumption) ?_
      rotate_left
      · intro wq hSw
        (try dsimp only at hSw)
        go_simp
        try with_reducible rfl
      try simp only [Act.put, List.setIfInBounds_toArray, List.set_cons_zero, List.set_cons_succ]
      refine wpAnyH_take (i := 7) (oi := { dst := some 24, op := Op.load 56 (Operand.tmp 23), type := 56, pos := "exact.go:549", after := #[{ on := 6, ground := Ground.data }], guard := none }) (v := .agg (wkL k).toArray) rfl (by kernel_rfl) (by kernel_rfl) (by kernel_rfl) (fun _ _ _ h => h) (Or.inl ⟨by rfl, ?_⟩) (by assumption) ?_
      · intro wq hSw
        exact load_op rfl rfl (run_loadVar_at wq _ 56 (wkL k) _ hSw.2 Tryz.underlying56 rfl (by kernel_rfl))
      try simp only [Act.put, List.setIfInBounds_toArray, List.set_cons_zero, List.set_cons_succ]
      refine wpAnyH_ready (rs := [8]) (by kernel_rfl) (by simp) ?_
      refine AllReadyH.cons (o := { dst := some 25, op := Op.call { callee := Callee.value (Operand.func 39), args := #[Operand.tmp 20, Operand.tmp 24], argTypes := #[56, 56] }, type := 4, pos := "exact.go:549", after := #[{ on := 3, ground := Ground.data }, { on := 7, ground := Ground.data }], guard := none }) rfl (fun K hK => ?_) AllReadyH.nil
      go_simp
      refine (c39e ((k : Int) + 1) wr.drew).mono ?_
      rintro e w1 ⟨rfl, hb1⟩
      have hB1 : Below w.heap.size w w1 := hbd.trans (hb1.mono hbd.size)
      clear hb1
      go_simp
      clear hHeld
      refine hK.out _ _ ?_ (fun hHeld => ?_)
      · exact S0 _ hB1
      clear hK K
      try simp only [Act.put, List.setIfInBounds_toArray, List.set_cons_zero, List.set_cons_succ]
      refine wpAnyH_take (i := 9) (oi := { dst := some 26, op := Op.unOp UnOp.not 4 (Operand.tmp 25), type := 4, pos := "exact.go:549", after := #[{ on := 8, ground := Ground.data }], guard := none }) (v := ?_) rfl (by kernel_rfl) (by kernel_rfl) (by kernel_rfl) (fun _ _ _ h => h) (Or.inl ⟨by rfl, ?_⟩) (by assumption) ?_
      rotate_left
      · intro wq hSw
        (try dsimp only at hSw)
        go_simp
        try with_reducible rfl
      try simp only [Act.put, List.setIfInBounds_toArray, List.set_cons_zero, List.set_cons_succ]
      refine wpAnyH_done (by kernel_rfl) ?_ _
      go_wp2
      go_roundw
      case rel => exact ⟨k + 1, by omega, by go_num, hB1⟩
      case measure => simp [intOf]; omega
    · obtain rfl : k = n := by omega
      go_wp2
      go_ret
      exact ⟨rfl, hb⟩
end Go.Proofs.YtlfokigiejcfoaaGreatDoor
