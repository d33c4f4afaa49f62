import Derived.Test.YtlfokigiejcfoaaGreatDoorB1
import Derived.RangeFuncRecord
import Derived.RangeFuncKeeps
import Derived.Shelf.Abstract
import Derived.Laws.IdiomRangeMap
import Derived.Maps.RangeRun
namespace Go.Proofs.YtlfokigiejcfoaaGreatDoor
open Go.RowKit
theorem below_put {n₀ : Nat} (W : World) (l : Nat) (o : Obj) (hl : n₀ ≤ l) : Below n₀ W (W.putObj l o) :=
  ⟨rfl, rfl, rfl, by simp, fun k hk => World.putObj_heap_other (by omega)⟩
/-- A range over a function that yields nothing. -/
theorem wp_calm {P : Program} {g : Operand} {ps : Array Tmp} {assign body : Code} {Q : Exit → Act → World → Prop} {a : Act} {w : World} {gf : Nat} {lb : Array Value}
    (hg : a.eval g = .func (.func gf) #[] lb) (eg : ∀ args w, (callFunc gf args).run P w = .ok (.enter gf args) w)
    (hc : ∀ (W : World) (l : Nat), Below w.heap.size w W → Calls P gf (#[.func (.yield l) #[] #[]] ++ lb) W fun e W' => (∃ v, e = .returned v) ∧ Below W.heap.size W W')
    (hQ : ∀ (D : Nat) (W : World), w.heap.size ≤ D → W.heap[D]? = some (.deferred (some [])) → Below w.heap.size w W → Q .normal { a with defers := { target := .collected D, args := #[] } :: a.defers } W) :
    (Code.rangeFunc g ps assign body).wp P Q a w := by
  refine (wpIn_wide (n := 1)).1 (wpIn_rangeFunc ?_)
  intro fn _
  obtain ⟨rec, hrec⟩ : ∃ rec : LoopState → Option Code → Loop, rec = fun st pe => { state := st, pending := pe, fn, tmps := a.tmps, params := ps, assign, body, defers := w.heap.size } := ⟨_, rfl⟩
  obtain ⟨W1, hW1⟩ : ∃ W1, (w.alloc (.deferred (some []))).alloc (.loop (rec .ready none)) = W1 := ⟨_, rfl⟩
  have hL1 : W1.heap[w.heap.size + 1]? = some (.loop (rec .ready none)) := by
    rw [← hW1]; have := World.alloc_heap_new (w.alloc (.deferred (some []))) (.loop (rec .ready none)); rwa [World.size_alloc] at this
  have hK1 : W1.heap[w.heap.size]? = some (.deferred (some [])) := by
    rw [← hW1]; exact (Below.heap_alloc _ _ _ (by simp)).trans (World.alloc_heap_new w _)
  have hb1 : Below w.heap.size w W1 := by
    rw [← hW1]; exact ((Below.refl _ w).alloc (Nat.le_refl _) _).alloc (by simp) _
  have hs1 : W1.heap.size = w.heap.size + 1 + 1 := by rw [← hW1]; simp
  refine ⟨w.heap.size + 1, [{ target := .collected w.heap.size, args := #[] }], W1, { target := .fn (.func gf) lb, args := #[.func (.yield (w.heap.size + 1)) #[] #[]] }, W1, gf,
    #[.func (.yield (w.heap.size + 1)) #[] #[]] ++ lb, W1, ?_, ?_, ?_, ?_, fun _ => Nat.le_refl _, ?_⟩
  · rw [← hW1, hrec]; exact run_enterLoop_outer _ _ _ _ _
  · simp only [resolve, hg]
    simp [go_sem]
  · intro f' _; trivial
  · simp [invoke, go_sem, eg]
  · refine callsIn_wide.2 ((hc W1 (w.heap.size + 1) hb1).mono ?_)
    rintro e W' ⟨⟨v, rfl⟩, hb⟩
    have hL2 := (hb.block (w.heap.size + 1) (by omega)).trans hL1
    have hK2 := (hb.block w.heap.size (by omega)).trans hK1
    refine ⟨_, _, run_endLoop hL2 (by rw [hrec]; exact LoopState.noConfusion), ?_⟩
    rw [hrec]
    exact hQ w.heap.size _ (Nat.le_refl _) ((World.putObj_heap_other (by omega)).trans hK2) ((hb1.trans (hb.mono hb1.size)).trans (below_put _ _ _ (by omega)))
theorem calls_marks {P : Program} {f : FuncId} {fn : Func} {c : Code} {args : Array Value} {w : World} {R : Ending → World → Prop}
    (hf : P.funcs[f]? = some fn) (hb : fn.body = some c)
    (h : c.wp P (bodyPostM Fence.wide 0 P fn R) { tmps := args ++ Array.replicate (fn.ntmps - args.size) undef, defers := [] } w) : Calls P f args w R :=
  callsIn_wide.1 (callsIn_of_wp_marks hf hb trivial (wpIn_wide.2 h))
set_option maxRecDepth 100000 in
theorem c177 (b m l : Nat) (w : World) (hc : w.cell? ⟨b, 0, none⟩ = some (.map (some m))) (he : w.heap[m]? = some (.map #[] 0)) : Calls Tryz.prog 177 #[.func (.yield l) #[] #[], .pointer (some ⟨b, 0, none⟩)] w fun e w' => (∃ v, e = .returned v) ∧ Below w.heap.size w w' := by
  have hrg := run_range_map (P := Tryz.prog) w 162 _ _ m #[] 0 Tryz.underlying162 he
  have hnx : (Instr.next (.pointer (some ⟨w.heap.size, 0, none⟩)) false 0).run Tryz.prog (w.alloc (.mapIter (some m) 0 #[] 0)) = .ok (.tuple #[.bool false]) (w.alloc (.mapIter (some m) 0 #[] 0)) := by
    rcases run_next_map (P := Tryz.prog) w 0 m 0 0 #[] #[] 0 he (by simp) (Nat.le_refl _) with ⟨_, h⟩ | ⟨e, h, _⟩
    · exact h
    · simp [leftOf] at h
  have hB : Below w.heap.size w (w.alloc (.mapIter (some m) 0 #[] 0)) := (Below.refl _ _).alloc (Nat.le_refl _) _
  go_enter Tryz.func177, Tryz.ntmps177
  go_wp2_with fail
  generalize w.alloc (.mapIter (some m) 0 #[] 0) = V at *
  go_loopw [] (fun wr => wr = V) (fun _ => 0)
  case atStart => rfl
  case round =>
    subst hrel
    go_wp2
    go_end0
    exact ⟨⟨_, rfl⟩, hB⟩
set_option maxRecDepth 100000 in
theorem c180 (b m l : Nat) (w : World) (hc : w.cell? ⟨b, 0, none⟩ = some (.map (some m))) (he : w.heap[m]? = some (.map #[] 0)) : Calls Tryz.prog 180 #[.func (.yield l) #[] #[], .pointer (some ⟨b, 0, none⟩)] w fun e w' => (∃ v, e = .returned v) ∧ Below w.heap.size w w' := by
  have hrg := run_range_map (P := Tryz.prog) w 163 _ _ m #[] 0 Tryz.underlying163 he
  have hnx : (Instr.next (.pointer (some ⟨w.heap.size, 0, none⟩)) false 0).run Tryz.prog (w.alloc (.mapIter (some m) 0 #[] 0)) = .ok (.tuple #[.bool false]) (w.alloc (.mapIter (some m) 0 #[] 0)) := by
    rcases run_next_map (P := Tryz.prog) w 0 m 0 0 #[] #[] 0 he (by simp) (Nat.le_refl _) with ⟨_, h⟩ | ⟨e, h, _⟩
    · exact h
    · simp [leftOf] at h
  have hB : Below w.heap.size w (w.alloc (.mapIter (some m) 0 #[] 0)) := (Below.refl _ _).alloc (Nat.le_refl _) _
  go_enter Tryz.func180, Tryz.ntmps180
  go_wp2_with fail
  generalize w.alloc (.mapIter (some m) 0 #[] 0) = V at *
  go_loopw [] (fun wr => wr = V) (fun _ => 0)
  case atStart => rfl
  case round =>
    subst hrel
    go_wp2
    go_end0
    exact ⟨⟨_, rfl⟩, hB⟩
set_option maxRecDepth 100000 in
theorem c146 (m : Nat) (w : World) : Calls Tryz.prog 146 #[.map (some m)] w fun e w' => (e = .returned (.func (.func 177) #[] #[.pointer (some ⟨w.heap.size, 0, none⟩)]) ∧ w.heap.size < w'.heap.size ∧ w'.cell? ⟨w.heap.size, 0, none⟩ = some (.map (some m))) ∧ Below w.heap.size w w' := by
  go_enter Tryz.func146, Tryz.ntmps146
  go_wp2
  go_ret
  exact ⟨⟨rfl, by simp, by simp [go_sem]⟩, (Below.refl _ _).alloc (Nat.le_refl _) _⟩
set_option maxRecDepth 100000 in
theorem c149 (m : Nat) (w : World) : Calls Tryz.prog 149 #[.map (some m)] w fun e w' => (e = .returned (.func (.func 180) #[] #[.pointer (some ⟨w.heap.size, 0, none⟩)]) ∧ w.heap.size < w'.heap.size ∧ w'.cell? ⟨w.heap.size, 0, none⟩ = some (.map (some m))) ∧ Below w.heap.size w w' := by
  go_enter Tryz.func149, Tryz.ntmps149
  go_wp2
  go_ret
  exact ⟨⟨rfl, by simp, by simp [go_sem]⟩, (Below.refl _ _).alloc (Nat.le_refl _) _⟩
set_option maxRecDepth 100000 in
theorem c115 (m : Nat) (w : World) : Calls Tryz.prog 115 #[.map (some m)] w fun e w' => (e = .returned (.func (.func 144) #[] #[.pointer (some ⟨w.heap.size, 0, none⟩)]) ∧ w.heap.size < w'.heap.size ∧ w'.cell? ⟨w.heap.size, 0, none⟩ = some (.map (some m))) ∧ Below w.heap.size w w' := by
  go_enter Tryz.func115, Tryz.ntmps115
  go_wp2
  go_ret
  exact ⟨⟨rfl, by simp, by simp [go_sem]⟩, (Below.refl _ _).alloc (Nat.le_refl _) _⟩
set_option maxRecDepth 100000 in
theorem c116 (m : Nat) (w : World) : Calls Tryz.prog 116 #[.map (some m)] w fun e w' => (e = .returned (.func (.func 147) #[] #[.pointer (some ⟨w.heap.size, 0, none⟩)]) ∧ w.heap.size < w'.heap.size ∧ w'.cell? ⟨w.heap.size, 0, none⟩ = some (.map (some m))) ∧ Below w.heap.size w w' := by
  go_enter Tryz.func116, Tryz.ntmps116
  go_wp2
  go_ret
  exact ⟨⟨rfl, by simp, by simp [go_sem]⟩, (Below.refl _ _).alloc (Nat.le_refl _) _⟩
set_option maxRecDepth 100000 in
theorem c198 (b m : Nat) (w : World) (hc : w.cell? ⟨b, 0, none⟩ = some (.map (some m))) (hb : b < w.heap.size) (hm : m < w.heap.size) (he : w.heap[m]? = some (.map #[] 0)) : Calls Tryz.prog 198 #[.slice none 0 0, .func (.func 177) #[] #[.pointer (some ⟨b, 0, none⟩)]] w fun e w' => e = .returned (.slice none 0 0) ∧ Below w.heap.size w w' := by
  refine calls_marks Tryz.func198 rfl ?_
  simp only [Tryz.ntmps198, List.size_toArray, List.length_cons, List.length_nil, Nat.reduceAdd, Nat.reduceSub, Array.replicate_succ, Array.replicate_zero, List.push_toArray, List.append_toArray, List.nil_append, List.cons_append]
  have hB1 : Below w.heap.size w (w.alloc (.cells #[.slice none 0 0] 22)) := (Below.refl _ _).alloc (Nat.le_refl _) _
  have hz : (w.alloc (.cells #[.slice none 0 0] 22)).heap.size = w.heap.size + 1 := by simp
  have hs0 : (w.alloc (.cells #[.slice none 0 0] 22)).cell? ⟨w.heap.size, 0, none⟩ = some (.slice none 0 0) := by simp [go_sem]
  go_wp2_with fail
  generalize w.alloc (.cells #[.slice none 0 0] 22) = V at *
  refine wp_calm (gf := 177) (lb := #[.pointer (some ⟨b, 0, none⟩)]) rfl (enters_of Tryz.func177 (by kernel_rfl) rfl) (fun W l hW => ?_) (fun D W hD hK hW => ?_)
  · refine c177 b m l W ?_ ?_
    · rw [hW.cell (p := ⟨b, 0, none⟩) (by show b < _; omega), hB1.cell (p := ⟨b, 0, none⟩) (by show b < _; omega), hc]
    · rw [hW.block m (by omega), hB1.block m (by omega), he]
  · have hs1 := (hW.cell (p := ⟨w.heap.size, 0, none⟩) (by show w.heap.size < _; omega)).trans hs0
    have hB2 := hB1.trans (hW.mono hB1.size)
    go_wp2
    (try simp only [Exit.inBlock, Exit.then])
    refine ⟨by simp, .inl ⟨_, _, rfl, run_takeDeferred hK, ⟨_, results_tmp rfl _ _ _, ?_⟩⟩⟩
    exact ⟨rfl, hB2.trans (below_put _ _ _ (by omega))⟩
set_option maxRecDepth 100000 in
theorem c201 (b m : Nat) (w : World) (hc : w.cell? ⟨b, 0, none⟩ = some (.map (some m))) (hb : b < w.heap.size) (hm : m < w.heap.size) (he : w.heap[m]? = some (.map #[] 0)) : Calls Tryz.prog 201 #[.slice none 0 0, .func (.func 180) #[] #[.pointer (some ⟨b, 0, none⟩)]] w fun e w' => e = .returned (.slice none 0 0) ∧ Below w.heap.size w w' := by
  refine calls_marks Tryz.func201 rfl ?_
  simp only [Tryz.ntmps201, List.size_toArray, List.length_cons, List.length_nil, Nat.reduceAdd, Nat.reduceSub, Array.replicate_succ, Array.replicate_zero, List.push_toArray, List.append_toArray, List.nil_append, List.cons_append]
  have hB1 : Below w.heap.size w (w.alloc (.cells #[.slice none 0 0] 31)) := (Below.refl _ _).alloc (Nat.le_refl _) _
  have hz : (w.alloc (.cells #[.slice none 0 0] 31)).heap.size = w.heap.size + 1 := by simp
  have hs0 : (w.alloc (.cells #[.slice none 0 0] 31)).cell? ⟨w.heap.size, 0, none⟩ = some (.slice none 0 0) := by simp [go_sem]
  go_wp2_with fail
  generalize w.alloc (.cells #[.slice none 0 0] 31) = V at *
  refine wp_calm (gf := 180) (lb := #[.pointer (some ⟨b, 0, none⟩)]) rfl (enters_of Tryz.func180 (by kernel_rfl) rfl) (fun W l hW => ?_) (fun D W hD hK hW => ?_)
  · refine c180 b m l W ?_ ?_
    · rw [hW.cell (p := ⟨b, 0, none⟩) (by show b < _; omega), hB1.cell (p := ⟨b, 0, none⟩) (by show b < _; omega), hc]
    · rw [hW.block m (by omega), hB1.block m (by omega), he]
  · have hs1 := (hW.cell (p := ⟨w.heap.size, 0, none⟩) (by show w.heap.size < _; omega)).trans hs0
    have hB2 := hB1.trans (hW.mono hB1.size)
    go_wp2
    (try simp only [Exit.inBlock, Exit.then])
    refine ⟨by simp, .inl ⟨_, _, rfl, run_takeDeferred hK, ⟨_, results_tmp rfl _ _ _, ?_⟩⟩⟩
    exact ⟨rfl, hB2.trans (below_put _ _ _ (by omega))⟩
set_option maxRecDepth 100000 in
theorem c175 (b m : Nat) (w : World) (hc : w.cell? ⟨b, 0, none⟩ = some (.map (some m))) (hb : b < w.heap.size) (hm : m < w.heap.size) (he : w.heap[m]? = some (.map #[] 0)) : Calls Tryz.prog 175 #[.func (.func 177) #[] #[.pointer (some ⟨b, 0, none⟩)]] w fun e w' => e = .returned (.slice none 0 0) ∧ Below w.heap.size w w' := by
  go_enter Tryz.func175, Tryz.ntmps175
  go_wp2_with fail
  refine (c198 b m w hc hb hm he).mono ?_
  rintro e w1 ⟨rfl, hb1⟩
  go_wp2
  go_ret
  exact ⟨rfl, hb1⟩
set_option maxRecDepth 100000 in
theorem c178 (b m : Nat) (w : World) (hc : w.cell? ⟨b, 0, none⟩ = some (.map (some m))) (hb : b < w.heap.size) (hm : m < w.heap.size) (he : w.heap[m]? = some (.map #[] 0)) : Calls Tryz.prog 178 #[.func (.func 180) #[] #[.pointer (some ⟨b, 0, none⟩)]] w fun e w' => e = .returned (.slice none 0 0) ∧ Below w.heap.size w w' := by
  go_enter Tryz.func178, Tryz.ntmps178
  go_wp2_with fail
  refine (c201 b m w hc hb hm he).mono ?_
  rintro e w1 ⟨rfl, hb1⟩
  go_wp2
  go_ret
  exact ⟨rfl, hb1⟩
set_option maxRecDepth 100000 in
theorem c200 (w : World) : Calls Tryz.prog 200 #[.int .u64 0] w fun e w' => (∃ v, e = .returned v) ∧ Below w.heap.size w w' := by
  go_enter Tryz.func200, Tryz.ntmps200
  go_wp2
  go_ret
  exact ⟨⟨_, rfl⟩, Below.refl _ _⟩
set_option maxRecDepth 100000 in
theorem c219 (w : World) : Calls Tryz.prog 219 #[.slice none 0 0, .int .i64 0, .int .i64 0] w fun e w' => (∃ v, e = .returned v) ∧ Below w.heap.size w w' := by
  go_enter Tryz.func219, Tryz.ntmps219
  go_wp2_with fail
  go_loopw [6] (fun i wr => i = .int .i64 1 ∧ wr = w) (fun _ _ => 0)
  case atStart => exact ⟨rfl, rfl⟩
  case round =>
    obtain ⟨rfl, rfl⟩ := hrel
    go_wp2
    go_end0
    exact ⟨⟨_, rfl⟩, Below.refl _ _⟩
set_option maxHeartbeats 2000000 in
set_option maxRecDepth 100000 in
theorem c199 (x : Value) (w : World) : Calls Tryz.prog 199 #[.slice none 0 0, .int .i64 0, .int .i64 0, x] w fun e w' => (∃ v, e = .returned v) ∧ Below w.heap.size w w' := by
  go_enter Tryz.func199, Tryz.ntmps199
  go_wp2_with fail
  go_loopw [1, 2] (fun a b wr => a = .int .i64 0 ∧ b = .int .i64 0 ∧ wr = w) (fun _ _ _ => 0)
  case atStart => exact ⟨rfl, rfl, rfl⟩
  case round =>
    obtain ⟨rfl, rfl, rfl⟩ := hrel
    go_wp2_with fail
    refine (c219 _).mono ?_
    rintro e w1 ⟨⟨v, rfl⟩, hb1⟩
    go_wp2
    refine bodyPost_ret (results_none rfl _ _ _) rfl ?_
    exact ⟨⟨_, rfl⟩, hb1⟩
set_option maxRecDepth 100000 in
theorem c176 (w : World) : Calls Tryz.prog 176 #[.slice none 0 0] w fun e w' => (∃ v, e = .returned v) ∧ Below w.heap.size w w' := by
  go_enter Tryz.func176, Tryz.ntmps176
  go_wp2_with fail
  refine (c200 _).mono ?_
  rintro e w1 ⟨⟨v, rfl⟩, hb1⟩
  go_wp2_with fail
  refine (c199 _ _).mono ?_
  rintro e w2 ⟨⟨v, rfl⟩, hb2⟩
  go_wp2
  go_end0
  exact ⟨⟨_, rfl⟩, hb1.trans (hb2.mono hb1.size)⟩
set_option maxRecDepth 100000 in
theorem c229 (w : World) : Calls Tryz.prog 229 #[.slice none 0 0, .int .i64 0, .int .i64 0] w fun e w' => (∃ v, e = .returned v) ∧ Below w.heap.size w w' := by
  go_enter Tryz.func229, Tryz.ntmps229
  go_wp2_with fail
  go_loopw [6] (fun i wr => i = .int .i64 1 ∧ wr = w) (fun _ _ => 0)
  case atStart => exact ⟨rfl, rfl⟩
  case round =>
    obtain ⟨rfl, rfl⟩ := hrel
    go_wp2
    go_end0
    exact ⟨⟨_, rfl⟩, Below.refl _ _⟩
set_option maxHeartbeats 2000000 in
set_option maxRecDepth 100000 in
theorem c202 (x : Value) (w : World) : Calls Tryz.prog 202 #[.slice none 0 0, .int .i64 0, .int .i64 0, x] w fun e w' => (∃ v, e = .returned v) ∧ Below w.heap.size w w' := by
  go_enter Tryz.func202, Tryz.ntmps202
  go_wp2_with fail
  go_loopw [1, 2] (fun a b wr => a = .int .i64 0 ∧ b = .int .i64 0 ∧ wr = w) (fun _ _ _ => 0)
  case atStart => exact ⟨rfl, rfl, rfl⟩
  case round =>
    obtain ⟨rfl, rfl, rfl⟩ := hrel
    go_wp2_with fail
    refine (c229 _).mono ?_
    rintro e w1 ⟨⟨v, rfl⟩, hb1⟩
    go_wp2
    refine bodyPost_ret (results_none rfl _ _ _) rfl ?_
    exact ⟨⟨_, rfl⟩, hb1⟩
set_option maxRecDepth 100000 in
theorem c179 (w : World) : Calls Tryz.prog 179 #[.slice none 0 0] w fun e w' => (∃ v, e = .returned v) ∧ Below w.heap.size w w' := by
  go_enter Tryz.func179, Tryz.ntmps179
  go_wp2_with fail
  refine (c200 _).mono ?_
  rintro e w1 ⟨⟨v, rfl⟩, hb1⟩
  go_wp2_with fail
  refine (c202 _ _).mono ?_
  rintro e w2 ⟨⟨v, rfl⟩, hb2⟩
  go_wp2
  go_end0
  exact ⟨⟨_, rfl⟩, hb1.trans (hb2.mono hb1.size)⟩
set_option maxRecDepth 100000 in
theorem c145 (b m : Nat) (w : World) (hc : w.cell? ⟨b, 0, none⟩ = some (.map (some m))) (hb : b < w.heap.size) (hm : m < w.heap.size) (he : w.heap[m]? = some (.map #[] 0)) : Calls Tryz.prog 145 #[.func (.func 177) #[] #[.pointer (some ⟨b, 0, none⟩)]] w fun e w' => e = .returned (.slice none 0 0) ∧ Below w.heap.size w w' := by
  go_enter Tryz.func145, Tryz.ntmps145
  go_wp2_with fail
  refine (c175 b m w hc hb hm he).mono ?_
  rintro e w1 ⟨rfl, hb1⟩
  go_wp2_with fail
  refine (c176 _).mono ?_
  rintro e w2 ⟨⟨v, rfl⟩, hb2⟩
  go_wp2
  go_ret
  exact ⟨rfl, hb1.trans (hb2.mono hb1.size)⟩
set_option maxRecDepth 100000 in
theorem c148 (b m : Nat) (w : World) (hc : w.cell? ⟨b, 0, none⟩ = some (.map (some m))) (hb : b < w.heap.size) (hm : m < w.heap.size) (he : w.heap[m]? = some (.map #[] 0)) : Calls Tryz.prog 148 #[.func (.func 180) #[] #[.pointer (some ⟨b, 0, none⟩)]] w fun e w' => e = .returned (.slice none 0 0) ∧ Below w.heap.size w w' := by
  go_enter Tryz.func148, Tryz.ntmps148
  go_wp2_with fail
  refine (c178 b m w hc hb hm he).mono ?_
  rintro e w1 ⟨rfl, hb1⟩
  go_wp2_with fail
  refine (c179 _).mono ?_
  rintro e w2 ⟨⟨v, rfl⟩, hb2⟩
  go_wp2
  go_ret
  exact ⟨rfl, hb1.trans (hb2.mono hb1.size)⟩
set_option maxRecDepth 100000 in
theorem c144 (b m l : Nat) (w : World) (hc : w.cell? ⟨b, 0, none⟩ = some (.map (some m))) (hm : m < w.heap.size) (he : w.heap[m]? = some (.map #[] 0)) : Calls Tryz.prog 144 #[.func (.yield l) #[] #[], .pointer (some ⟨b, 0, none⟩)] w fun e w' => (∃ v, e = .returned v) ∧ Below w.heap.size w w' := by
  go_enter Tryz.func144, Tryz.ntmps144
  go_wp2_with fail
  refine (c146 m w).mono ?_
  rintro e w1 ⟨⟨rfl, hz1, hc1⟩, hb1⟩
  have he1 := (hb1.block m hm).trans he
  go_wp2_with fail
  refine (c145 _ m w1 hc1 hz1 (by omega) he1).mono ?_
  rintro e w2 ⟨rfl, hb2⟩
  have hB2 := hb1.trans (hb2.mono hb1.size)
  go_wp2_with fail
  go_loopw [9] (fun i wr => i = .int .i64 0 ∧ wr = w2) (fun _ _ => 0)
  case atStart => exact ⟨rfl, rfl⟩
  case round =>
    obtain ⟨rfl, rfl⟩ := hrel
    go_wp2
    go_end0
    exact ⟨⟨_, rfl⟩, hB2⟩
set_option maxRecDepth 100000 in
theorem c147 (b m l : Nat) (w : World) (hc : w.cell? ⟨b, 0, none⟩ = some (.map (some m))) (hm : m < w.heap.size) (he : w.heap[m]? = some (.map #[] 0)) : Calls Tryz.prog 147 #[.func (.yield l) #[] #[], .pointer (some ⟨b, 0, none⟩)] w fun e w' => (∃ v, e = .returned v) ∧ Below w.heap.size w w' := by
  go_enter Tryz.func147, Tryz.ntmps147
  go_wp2_with fail
  refine (c149 m w).mono ?_
  rintro e w1 ⟨⟨rfl, hz1, hc1⟩, hb1⟩
  have he1 := (hb1.block m hm).trans he
  go_wp2_with fail
  refine (c148 _ m w1 hc1 hz1 (by omega) he1).mono ?_
  rintro e w2 ⟨rfl, hb2⟩
  have hB2 := hb1.trans (hb2.mono hb1.size)
  go_wp2_with fail
  go_loopw [9] (fun i wr => i = .int .i64 0 ∧ wr = w2) (fun _ _ => 0)
  case atStart => exact ⟨rfl, rfl⟩
  case round =>
    obtain ⟨rfl, rfl⟩ := hrel
    go_wp2
    go_end0
    exact ⟨⟨_, rfl⟩, hB2⟩
end Go.Proofs.YtlfokigiejcfoaaGreatDoor
