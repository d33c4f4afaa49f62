import Derived.Test.YtopoaccekhmcaaaGreatDoorB1
import Derived.RangeFuncRecord
import Derived.RangeFuncKeeps
import Derived.Shelf.Abstract
import Derived.Laws.IdiomRangeMap
import Derived.Maps.RangeRun
namespace Go.Proofs.YtopoaccekhmcaaaGreatDoor
open Go.RowKit
theorem below_put {n₀ : Nat} (W : World) (l : Nat) (o : Obj) (hl : n₀ ≤ l) : Below n₀ W (W.putObj l o) :=
  ⟨rfl, rfl, rfl, by simp, fun k hk => World.putObj_heap_other (by omega)⟩
/-- A range over a function that yields nothing. -/
theorem wp_calm {P : Program} {g : Operand} {ps : Array Tmp} {assign body : Code} {Q : Exit → Act → World → Prop} {a : Act} {w : World} {gf : Nat} {lb : Array Value}
    (hg : a.eval g = .func (.func gf) #[] lb) (eg : ∀ args w, (callFunc gf args).run P w = .ok (.enter gf args) w)
    (hc : ∀ (W : World) (l : Nat), Below w.heap.size w W → Calls P gf (#[.func (.yield l) #[] #[]] ++ lb) W fun e W' => (∃ v, e = .returned v) ∧ Below W.heap.size W W')
    (hQ : ∀ (D : Nat) (W : World), w.heap.size ≤ D → W.heap[D]? = some (.deferred (some [])) → Below w.heap.size w W → Q .normal { a with defers := { target := .collected D, args := #[] } :: a.defers } W) :
    (Code.rangeFunc g ps assign body).wp P Q a w := by
  refine (wpIn_wide (n := 1)).1 (wpIn_rangeFunc ?_)
  intro fn _
  obtain ⟨rec, hrec⟩ : ∃ rec : LoopState → Option Code → Loop, rec = fun st pe => { state := st, pending := pe, fn, tmps := a.tmps, params := ps, assign, body, defers := w.heap.size } := ⟨_, rfl⟩
  obtain ⟨W1, hW1⟩ : ∃ W1, (w.alloc (.deferred (some []))).alloc (.loop (rec .ready none)) = W1 := ⟨_, rfl⟩
  have hL1 : W1.heap[w.heap.size + 1]? = some (.loop (rec .ready none)) := by
    rw [← hW1]; have := World.alloc_heap_new (w.alloc (.deferred (some []))) (.loop (rec .ready none)); rwa [World.size_alloc] at this
  have hK1 : W1.heap[w.heap.size]? = some (.deferred (some [])) := by
    rw [← hW1]; exact (Below.heap_alloc _ _ _ (by simp)).trans (World.alloc_heap_new w _)
  have hb1 : Below w.heap.size w W1 := by
    rw [← hW1]; exact ((Below.refl _ w).alloc (Nat.le_refl _) _).alloc (by simp) _
  have hs1 : W1.heap.size = w.heap.size + 1 + 1 := by rw [← hW1]; simp
  refine ⟨w.heap.size + 1, [{ target := .collected w.heap.size, args := #[] }], W1, { target := .fn (.func gf) lb, args := #[.func (.yield (w.heap.size + 1)) #[] #[]] }, W1, gf,
    #[.func (.yield (w.heap.size + 1)) #[] #[]] ++ lb, W1, ?_, ?_, ?_, ?_, fun _ => Nat.le_refl _, ?_⟩
  · rw [← hW1, hrec]; exact run_enterLoop_outer _ _ _ _ _
  · simp only [resolve, hg]
    simp [go_sem]
  · intro f' _; trivial
  · simp [invoke, go_sem, eg]
  · refine callsIn_wide.2 ((hc W1 (w.heap.size + 1) hb1).mono ?_)
    rintro e W' ⟨⟨v, rfl⟩, hb⟩
    have hL2 := (hb.block (w.heap.size + 1) (by omega)).trans hL1
    have hK2 := (hb.block w.heap.size (by omega)).trans hK1
    refine ⟨_, _, run_endLoop hL2 (by rw [hrec]; exact LoopState.noConfusion), ?_⟩
    rw [hrec]
    exact hQ w.heap.size _ (Nat.le_refl _) ((World.putObj_heap_other (by omega)).trans hK2) ((hb1.trans (hb.mono hb1.size)).trans (below_put _ _ _ (by omega)))
theorem calls_marks {P : Program} {f : FuncId} {fn : Func} {c : Code} {args : Array Value} {w : World} {R : Ending → World → Prop}
    (hf : P.funcs[f]? = some fn) (hb : fn.body = some c)
    (h : c.wp P (bodyPostM Fence.wide 0 P fn R) { tmps := args ++ Array.replicate (fn.ntmps - args.size) undef, defers := [] } w) : Calls P f args w R :=
  callsIn_wide.1 (callsIn_of_wp_marks hf hb trivial (wpIn_wide.2 h))
set_option maxRecDepth 100000 in
theorem c152 (b m l : Nat) (w : World) (hc : w.cell? ⟨b, 0, none⟩ = some (.map (some m))) (he : w.heap[m]? = some (.map #[] 0)) : Calls Tryz.prog 152 #[.func (.yield l) #[] #[], .pointer (some ⟨b, 0, none⟩)] w fun e w' => (∃ v, e = .returned v) ∧ Below w.heap.size w w' := by
  have hrg := run_range_map (P := Tryz.prog) w 126 _ _ m #[] 0 Tryz.underlying126 he
  have hnx : (Instr.next (.pointer (some ⟨w.heap.size, 0, none⟩)) false 0).run Tryz.prog (w.alloc (.mapIter (some m) 0 #[] 0)) = .ok (.tuple #[.bool false]) (w.alloc (.mapIter (some m) 0 #[] 0)) := by
    rcases run_next_map (P := Tryz.prog) w 0 m 0 0 #[] #[] 0 he (by simp) (Nat.le_refl _) with ⟨_, h⟩ | ⟨e, h, _⟩
    · exact h
    · simp [leftOf] at h
  have hB : Below w.heap.size w (w.alloc (.mapIter (some m) 0 #[] 0)) := (Below.refl _ _).alloc (Nat.le_refl _) _
  go_enter Tryz.func152, Tryz.ntmps152
  go_wp2_with fail
  generalize w.alloc (.mapIter (some m) 0 #[] 0) = V at *
  go_loopw [] (fun wr => wr = V) (fun _ => 0)
  case atStart => rfl
  case round =>
    subst hrel
    go_wp2
    go_end0
    exact ⟨⟨_, rfl⟩, hB⟩
set_option maxRecDepth 100000 in
theorem c155 (b m l : Nat) (w : World) (hc : w.cell? ⟨b, 0, none⟩ = some (.map (some m))) (he : w.heap[m]? = some (.map #[] 0)) : Calls Tryz.prog 155 #[.func (.yield l) #[] #[], .pointer (some ⟨b, 0, none⟩)] w fun e w' => (∃ v, e = .returned v) ∧ Below w.heap.size w w' := by
  have hrg := run_range_map (P := Tryz.prog) w 127 _ _ m #[] 0 Tryz.underlying127 he
  have hnx : (Instr.next (.pointer (some ⟨w.heap.size, 0, none⟩)) false 0).run Tryz.prog (w.alloc (.mapIter (some m) 0 #[] 0)) = .ok (.tuple #[.bool false]) (w.alloc (.mapIter (some m) 0 #[] 0)) := by
    rcases run_next_map (P := Tryz.prog) w 0 m 0 0 #[] #[] 0 he (by simp) (Nat.le_refl _) with ⟨_, h⟩ | ⟨e, h, _⟩
    · exact h
    · simp [leftOf] at h
  have hB : Below w.heap.size w (w.alloc (.mapIter (some m) 0 #[] 0)) := (Below.refl _ _).alloc (Nat.le_refl _) _
  go_enter Tryz.func155, Tryz.ntmps155
  go_wp2_with fail
  generalize w.alloc (.mapIter (some m) 0 #[] 0) = V at *
  go_loopw [] (fun wr => wr = V) (fun _ => 0)
  case atStart => rfl
  case round =>
    subst hrel
    go_wp2
    go_end0
    exact ⟨⟨_, rfl⟩, hB⟩
set_option maxRecDepth 100000 in
theorem c121 (m : Nat) (w : World) : Calls Tryz.prog 121 #[.map (some m)] w fun e w' => (e = .returned (.func (.func 152) #[] #[.pointer (some ⟨w.heap.size, 0, none⟩)]) ∧ w.heap.size < w'.heap.size ∧ w'.cell? ⟨w.heap.size, 0, none⟩ = some (.map (some m))) ∧ Below w.heap.size w w' := by
  go_enter Tryz.func121, Tryz.ntmps121
  go_wp2
  go_ret
  exact ⟨⟨rfl, by simp, by simp [go_sem]⟩, (Below.refl _ _).alloc (Nat.le_refl _) _⟩
set_option maxRecDepth 100000 in
theorem c124 (m : Nat) (w : World) : Calls Tryz.prog 124 #[.map (some m)] w fun e w' => (e = .returned (.func (.func 155) #[] #[.pointer (some ⟨w.heap.size, 0, none⟩)]) ∧ w.heap.size < w'.heap.size ∧ w'.cell? ⟨w.heap.size, 0, none⟩ = some (.map (some m))) ∧ Below w.heap.size w w' := by
  go_enter Tryz.func124, Tryz.ntmps124
  go_wp2
  go_ret
  exact ⟨⟨rfl, by simp, by simp [go_sem]⟩, (Below.refl _ _).alloc (Nat.le_refl _) _⟩
set_option maxRecDepth 100000 in
theorem c90 (m : Nat) (w : World) : Calls Tryz.prog 90 #[.map (some m)] w fun e w' => (e = .returned (.func (.func 119) #[] #[.pointer (some ⟨w.heap.size, 0, none⟩)]) ∧ w.heap.size < w'.heap.size ∧ w'.cell? ⟨w.heap.size, 0, none⟩ = some (.map (some m))) ∧ Below w.heap.size w w' := by
  go_enter Tryz.func90, Tryz.ntmps90
  go_wp2
  go_ret
  exact ⟨⟨rfl, by simp, by simp [go_sem]⟩, (Below.refl _ _).alloc (Nat.le_refl _) _⟩
set_option maxRecDepth 100000 in
theorem c91 (m : Nat) (w : World) : Calls Tryz.prog 91 #[.map (some m)] w fun e w' => (e = .returned (.func (.func 122) #[] #[.pointer (some ⟨w.heap.size, 0, none⟩)]) ∧ w.heap.size < w'.heap.size ∧ w'.cell? ⟨w.heap.size, 0, none⟩ = some (.map (some m))) ∧ Below w.heap.size w w' := by
  go_enter Tryz.func91, Tryz.ntmps91
  go_wp2
  go_ret
  exact ⟨⟨rfl, by simp, by simp [go_sem]⟩, (Below.refl _ _).alloc (Nat.le_refl _) _⟩
set_option maxRecDepth 100000 in
theorem c173 (b m : Nat) (w : World) (hc : w.cell? ⟨b, 0, none⟩ = some (.map (some m))) (hb : b < w.heap.size) (hm : m < w.heap.size) (he : w.heap[m]? = some (.map #[] 0)) : Calls Tryz.prog 173 #[.slice none 0 0, .func (.func 152) #[] #[.pointer (some ⟨b, 0, none⟩)]] w fun e w' => e = .returned (.slice none 0 0) ∧ Below w.heap.size w w' := by
  refine calls_marks Tryz.func173 rfl ?_
  simp only [Tryz.ntmps173, List.size_toArray, List.length_cons, List.length_nil, Nat.reduceAdd, Nat.reduceSub, Array.replicate_succ, Array.replicate_zero, List.push_toArray, List.append_toArray, List.nil_append, List.cons_append]
  have hB1 : Below w.heap.size w (w.alloc (.cells #[.slice none 0 0] 22)) := (Below.refl _ _).alloc (Nat.le_refl _) _
  have hz : (w.alloc (.cells #[.slice none 0 0] 22)).heap.size = w.heap.size + 1 := by simp
  have hs0 : (w.alloc (.cells #[.slice none 0 0] 22)).cell? ⟨w.heap.size, 0, none⟩ = some (.slice none 0 0) := by simp [go_sem]
  go_wp2_with fail
  generalize w.alloc (.cells #[.slice none 0 0] 22) = V at *
  refine wp_calm (gf := 152) (lb := #[.pointer (some ⟨b, 0, none⟩)]) rfl (enters_of Tryz.func152 (by kernel_rfl) rfl) (fun W l hW => ?_) (fun D W hD hK hW => ?_)
  · refine c152 b m l W ?_ ?_
    · rw [hW.cell (p := ⟨b, 0, none⟩) (by show b < _; omega), hB1.cell (p := ⟨b, 0, none⟩) (by show b < _; omega), hc]
    · rw [hW.block m (by omega), hB1.block m (by omega), he]
  · have hs1 := (hW.cell (p := ⟨w.heap.size, 0, none⟩) (by show w.heap.size < _; omega)).trans hs0
    have hB2 := hB1.trans (hW.mono hB1.size)
    go_wp2
    (try simp only [Exit.inBlock, Exit.then])
    refine ⟨by simp, .inl ⟨_, _, rfl, run_takeDeferred hK, ⟨_, results_tmp rfl _ _ _, ?_⟩⟩⟩
    exact ⟨rfl, hB2.trans (below_put _ _ _ (by omega))⟩
set_option maxRecDepth 100000 in
theorem c176 (b m : Nat) (w : World) (hc : w.cell? ⟨b, 0, none⟩ = some (.map (some m))) (hb : b < w.heap.size) (hm : m < w.heap.size) (he : w.heap[m]? = some (.map #[] 0)) : Calls Tryz.prog 176 #[.slice none 0 0, .func (.func 155) #[] #[.pointer (some ⟨b, 0, none⟩)]] w fun e w' => e = .returned (.slice none 0 0) ∧ Below w.heap.size w w' := by
  refine calls_marks Tryz.func176 rfl ?_
  simp only [Tryz.ntmps176, List.size_toArray, List.length_cons, List.length_nil, Nat.reduceAdd, Nat.reduceSub, Array.replicate_succ, Array.replicate_zero, List.push_toArray, List.append_toArray, List.nil_append, List.cons_append]
  have hB1 : Below w.heap.size w (w.alloc (.cells #[.slice none 0 0] 31)) := (Below.refl _ _).alloc (Nat.le_refl _) _
  have hz : (w.alloc (.cells #[.slice none 0 0] 31)).heap.size = w.heap.size + 1 := by simp
  have hs0 : (w.alloc (.cells #[.slice none 0 0] 31)).cell? ⟨w.heap.size, 0, none⟩ = some (.slice none 0 0) := by simp [go_sem]
  go_wp2_with fail
  generalize w.alloc (.cells #[.slice none 0 0] 31) = V at *
  refine wp_calm (gf := 155) (lb := #[.pointer (some ⟨b, 0, none⟩)]) rfl (enters_of Tryz.func155 (by kernel_rfl) rfl) (fun W l hW => ?_) (fun D W hD hK hW => ?_)
  · refine c155 b m l W ?_ ?_
    · rw [hW.cell (p := ⟨b, 0, none⟩) (by show b < _; omega), hB1.cell (p := ⟨b, 0, none⟩) (by show b < _; omega), hc]
    · rw [hW.block m (by omega), hB1.block m (by omega), he]
  · have hs1 := (hW.cell (p := ⟨w.heap.size, 0, none⟩) (by show w.heap.size < _; omega)).trans hs0
    have hB2 := hB1.trans (hW.mono hB1.size)
    go_wp2
    (try simp only [Exit.inBlock, Exit.then])
    refine ⟨by simp, .inl ⟨_, _, rfl, run_takeDeferred hK, ⟨_, results_tmp rfl _ _ _, ?_⟩⟩⟩
    exact ⟨rfl, hB2.trans (below_put _ _ _ (by omega))⟩
set_option maxRecDepth 100000 in
theorem c150 (b m : Nat) (w : World) (hc : w.cell? ⟨b, 0, none⟩ = some (.map (some m))) (hb : b < w.heap.size) (hm : m < w.heap.size) (he : w.heap[m]? = some (.map #[] 0)) : Calls Tryz.prog 150 #[.func (.func 152) #[] #[.pointer (some ⟨b, 0, none⟩)]] w fun e w' => e = .returned (.slice none 0 0) ∧ Below w.heap.size w w' := by
  go_enter Tryz.func150, Tryz.ntmps150
  go_wp2_with fail
  refine (c173 b m w hc hb hm he).mono ?_
  rintro e w1 ⟨rfl, hb1⟩
  go_wp2
  go_ret
  exact ⟨rfl, hb1⟩
set_option maxRecDepth 100000 in
theorem c153 (b m : Nat) (w : World) (hc : w.cell? ⟨b, 0, none⟩ = some (.map (some m))) (hb : b < w.heap.size) (hm : m < w.heap.size) (he : w.heap[m]? = some (.map #[] 0)) : Calls Tryz.prog 153 #[.func (.func 155) #[] #[.pointer (some ⟨b, 0, none⟩)]] w fun e w' => e = .returned (.slice none 0 0) ∧ Below w.heap.size w w' := by
  go_enter Tryz.func153, Tryz.ntmps153
  go_wp2_with fail
  refine (c176 b m w hc hb hm he).mono ?_
  rintro e w1 ⟨rfl, hb1⟩
  go_wp2
  go_ret
  exact ⟨rfl, hb1⟩
set_option maxRecDepth 100000 in
theorem c175 (w : World) : Calls Tryz.prog 175 #[.int .u64 0] w fun e w' => (∃ v, e = .returned v) ∧ Below w.heap.size w w' := by
  go_enter Tryz.func175, Tryz.ntmps175
  go_wp2
  go_ret
  exact ⟨⟨_, rfl⟩, Below.refl _ _⟩
set_option maxRecDepth 100000 in
theorem c194 (w : World) : Calls Tryz.prog 194 #[.slice none 0 0, .int .i64 0, .int .i64 0] w fun e w' => (∃ v, e = .returned v) ∧ Below w.heap.size w w' := by
  go_enter Tryz.func194, Tryz.ntmps194
  go_wp2_with fail
  go_loopw [6] (fun i wr => i = .int .i64 1 ∧ wr = w) (fun _ _ => 0)
  case atStart => exact ⟨rfl, rfl⟩
  case round =>
    obtain ⟨rfl, rfl⟩ := hrel
    go_wp2
    go_end0
    exact ⟨⟨_, rfl⟩, Below.refl _ _⟩
set_option maxHeartbeats 2000000 in
set_option maxRecDepth 100000 in
theorem c174 (x : Value) (w : World) : Calls Tryz.prog 174 #[.slice none 0 0, .int .i64 0, .int .i64 0, x] w fun e w' => (∃ v, e = .returned v) ∧ Below w.heap.size w w' := by
  go_enter Tryz.func174, Tryz.ntmps174
  go_wp2_with fail
  go_loopw [1, 2] (fun a b wr => a = .int .i64 0 ∧ b = .int .i64 0 ∧ wr = w) (fun _ _ _ => 0)
  case atStart => exact ⟨rfl, rfl, rfl⟩
  case round =>
    obtain ⟨rfl, rfl, rfl⟩ := hrel
    go_wp2_with fail
    refine (c194 _).mono ?_
    rintro e w1 ⟨⟨v, rfl⟩, hb1⟩
    go_wp2
    refine bodyPost_ret (results_none rfl _ _ _) rfl ?_
    exact ⟨⟨_, rfl⟩, hb1⟩
set_option maxRecDepth 100000 in
theorem c151 (w : World) : Calls Tryz.prog 151 #[.slice none 0 0] w fun e w' => (∃ v, e = .returned v) ∧ Below w.heap.size w w' := by
  go_enter Tryz.func151, Tryz.ntmps151
  go_wp2_with fail
  refine (c175 _).mono ?_
  rintro e w1 ⟨⟨v, rfl⟩, hb1⟩
  go_wp2_with fail
  refine (c174 _ _).mono ?_
  rintro e w2 ⟨⟨v, rfl⟩, hb2⟩
  go_wp2
  go_end0
  exact ⟨⟨_, rfl⟩, hb1.trans (hb2.mono hb1.size)⟩
set_option maxRecDepth 100000 in
theorem c204 (w : World) : Calls Tryz.prog 204 #[.slice none 0 0, .int .i64 0, .int .i64 0] w fun e w' => (∃ v, e = .returned v) ∧ Below w.heap.size w w' := by
  go_enter Tryz.func204, Tryz.ntmps204
  go_wp2_with fail
  go_loopw [6] (fun i wr => i = .int .i64 1 ∧ wr = w) (fun _ _ => 0)
  case atStart => exact ⟨rfl, rfl⟩
  case round =>
    obtain ⟨rfl, rfl⟩ := hrel
    go_wp2
    go_end0
    exact ⟨⟨_, rfl⟩, Below.refl _ _⟩
set_option maxHeartbeats 2000000 in
set_option maxRecDepth 100000 in
theorem c177 (x : Value) (w : World) : Calls Tryz.prog 177 #[.slice none 0 0, .int .i64 0, .int .i64 0, x] w fun e w' => (∃ v, e = .returned v) ∧ Below w.heap.size w w' := by
  go_enter Tryz.func177, Tryz.ntmps177
  go_wp2_with fail
  go_loopw [1, 2] (fun a b wr => a = .int .i64 0 ∧ b = .int .i64 0 ∧ wr = w) (fun _ _ _ => 0)
  case atStart => exact ⟨rfl, rfl, rfl⟩
  case round =>
    obtain ⟨rfl, rfl, rfl⟩ := hrel
    go_wp2_with fail
    refine (c204 _).mono ?_
    rintro e w1 ⟨⟨v, rfl⟩, hb1⟩
    go_wp2
    refine bodyPost_ret (results_none rfl _ _ _) rfl ?_
    exact ⟨⟨_, rfl⟩, hb1⟩
set_option maxRecDepth 100000 in
theorem c154 (w : World) : Calls Tryz.prog 154 #[.slice none 0 0] w fun e w' => (∃ v, e = .returned v) ∧ Below w.heap.size w w' := by
  go_enter Tryz.func154, Tryz.ntmps154
  go_wp2_with fail
  refine (c175 _).mono ?_
  rintro e w1 ⟨⟨v, rfl⟩, hb1⟩
  go_wp2_with fail
  refine (c177 _ _).mono ?_
  rintro e w2 ⟨⟨v, rfl⟩, hb2⟩
  go_wp2
  go_end0
  exact ⟨⟨_, rfl⟩, hb1.trans (hb2.mono hb1.size)⟩
set_option maxRecDepth 100000 in
theorem c120 (b m : Nat) (w : World) (hc : w.cell? ⟨b, 0, none⟩ = some (.map (some m))) (hb : b < w.heap.size) (hm : m < w.heap.size) (he : w.heap[m]? = some (.map #[] 0)) : Calls Tryz.prog 120 #[.func (.func 152) #[] #[.pointer (some ⟨b, 0, none⟩)]] w fun e w' => e = .returned (.slice none 0 0) ∧ Below w.heap.size w w' := by
  go_enter Tryz.func120, Tryz.ntmps120
  go_wp2_with fail
  refine (c150 b m w hc hb hm he).mono ?_
  rintro e w1 ⟨rfl, hb1⟩
  go_wp2_with fail
  refine (c151 _).mono ?_
  rintro e w2 ⟨⟨v, rfl⟩, hb2⟩
  go_wp2
  go_ret
  exact ⟨rfl, hb1.trans (hb2.mono hb1.size)⟩
set_option maxRecDepth 100000 in
theorem c123 (b m : Nat) (w : World) (hc : w.cell? ⟨b, 0, none⟩ = some (.map (some m))) (hb : b < w.heap.size) (hm : m < w.heap.size) (he : w.heap[m]? = some (.map #[] 0)) : Calls Tryz.prog 123 #[.func (.func 155) #[] #[.pointer (some ⟨b, 0, none⟩)]] w fun e w' => e = .returned (.slice none 0 0) ∧ Below w.heap.size w w' := by
  go_enter Tryz.func123, Tryz.ntmps123
  go_wp2_with fail
  refine (c153 b m w hc hb hm he).mono ?_
  rintro e w1 ⟨rfl, hb1⟩
  go_wp2_with fail
  refine (c154 _).mono ?_
  rintro e w2 ⟨⟨v, rfl⟩, hb2⟩
  go_wp2
  go_ret
  exact ⟨rfl, hb1.trans (hb2.mono hb1.size)⟩
set_option maxRecDepth 100000 in
theorem c119 (b m l : Nat) (w : World) (hc : w.cell? ⟨b, 0, none⟩ = some (.map (some m))) (hm : m < w.heap.size) (he : w.heap[m]? = some (.map #[] 0)) : Calls Tryz.prog 119 #[.func (.yield l) #[] #[], .pointer (some ⟨b, 0, none⟩)] w fun e w' => (∃ v, e = .returned v) ∧ Below w.heap.size w w' := by
  go_enter Tryz.func119, Tryz.ntmps119
  go_wp2_with fail
  refine (c121 m w).mono ?_
  rintro e w1 ⟨⟨rfl, hz1, hc1⟩, hb1⟩
  have he1 := (hb1.block m hm).trans he
  go_wp2_with fail
  refine (c120 _ m w1 hc1 hz1 (by omega) he1).mono ?_
  rintro e w2 ⟨rfl, hb2⟩
  have hB2 := hb1.trans (hb2.mono hb1.size)
  go_wp2_with fail
  go_loopw [9] (fun i wr => i = .int .i64 0 ∧ wr = w2) (fun _ _ => 0)
  case atStart => exact ⟨rfl, rfl⟩
  case round =>
    obtain ⟨rfl, rfl⟩ := hrel
    go_wp2
    go_end0
    exact ⟨⟨_, rfl⟩, hB2⟩
set_option maxRecDepth 100000 in
theorem c122 (b m l : Nat) (w : World) (hc : w.cell? ⟨b, 0, none⟩ = some (.map (some m))) (hm : m < w.heap.size) (he : w.heap[m]? = some (.map #[] 0)) : Calls Tryz.prog 122 #[.func (.yield l) #[] #[], .pointer (some ⟨b, 0, none⟩)] w fun e w' => (∃ v, e = .returned v) ∧ Below w.heap.size w w' := by
  go_enter Tryz.func122, Tryz.ntmps122
  go_wp2_with fail
  refine (c124 m w).mono ?_
  rintro e w1 ⟨⟨rfl, hz1, hc1⟩, hb1⟩
  have he1 := (hb1.block m hm).trans he
  go_wp2_with fail
  refine (c123 _ m w1 hc1 hz1 (by omega) he1).mono ?_
  rintro e w2 ⟨rfl, hb2⟩
  have hB2 := hb1.trans (hb2.mono hb1.size)
  go_wp2_with fail
  go_loopw [9] (fun i wr => i = .int .i64 0 ∧ wr = w2) (fun _ _ => 0)
  case atStart => exact ⟨rfl, rfl⟩
  case round =>
    obtain ⟨rfl, rfl⟩ := hrel
    go_wp2
    go_end0
    exact ⟨⟨_, rfl⟩, hB2⟩
end Go.Proofs.YtopoaccekhmcaaaGreatDoor
