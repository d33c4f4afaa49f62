import Derived.Test.YtkhlekmicpmpkaaGreatDoorLO
import Derived.Test.YtkhlekmicpmpkaaGreatDoorCards
import Derived.Test.YtkhlekmicpmpkaaGreatDoorTie
namespace Go.Proofs.YtkhlekmicpmpkaaGreatDoor.fnExactKeep
open Go.ChangeShapes Go.WideShapes Go.ChangeAt Go.RowKit
set_option linter.unusedVariables false
theorem max_of_shaped {w : World} (h : w.ShapedOpen Tryz.prog) : MaxAt w := by
 obtain ⟨m, hm⟩ := Go.Proofs.cell_of_shapedOpen_int (g := 0) (zero := #[.int .i64 0]) (t := 3) h (of_decide_eq_true (by kernel_rfl)) (by kernel_rfl) rfl (by kernel_rfl) (by kernel_rfl) Tryz.underlying3
 refine ⟨?_, m, hm⟩
 rcases Nat.lt_or_ge 0 w.heap.size with h1 | h1
 · exact h1
 · simp [World.cell?, Array.getElem?_eq_none h1] at hm
set_option maxHeartbeats 4000000 in
set_option maxRecDepth 100000 in
theorem contract (H : Type) (enc : TypeId × Value → H) (W : World) (base : Nat) (args : Array Value) (ds gs : List (DataW H)) (before : List MemPlace)
 (hval : ∀ (j : Nat) t v, Tryz.f3.params[j]? = some t → args[j]? = some v → Value.okWide Tryz.prog W .any base t v)
 (hW : DataW.Whole enc Tryz.prog Tryz.f3.params.toList Rows.fnExactKeepSpec.vars false W args.toList ds gs before) (hL : laidMetH Tryz.prog Rows.fnExactKeepRow.laid W) (hSO : W.ShapedOpen Tryz.prog) :
 Calls Tryz.prog 3 args W fun e W' => ∃ v, e = .returned v ∧ Rows.fnExactKeepSpec.post enc Tryz.prog Tryz.f3 false true false false W args v W' := by
 have hmx : MaxAt W := max_of_shaped hSO
 have hW' := hW
 obtain ⟨p, q, hA0, hV, rfl, hfz, hnd⟩ := hW
 have hA : DataW.TrodAll enc Tryz.prog W 0 (fun _ => true) true Tryz.f3.params.toList args.toList ds p := hA0
 rw [Tryz.params3] at hA hval
 obtain ⟨v0, vs0, d0, ds0, p0, q0, hargs, rfl, rfl, h0, r0⟩ := trodAll_cons hA
 obtain ⟨v1, vs1, d1, ds1, p1, q1, hargs1, rfl, rfl, h1, r1⟩ := trodAll_cons r0
 obtain ⟨v2, vs2, d2, ds2, p2, q2, hargs2, rfl, rfl, h2, r2⟩ := trodAll_cons r1
 obtain ⟨v3, vs3, d3, ds3, p3, q3, hargs3, rfl, rfl, h3, r3⟩ := trodAll_cons r2
 obtain ⟨rfl, rfl, rfl⟩ := trodAll_nil r3
 rw [hargs3] at hargs2
 rw [hargs2] at hargs1
 rw [hargs1] at hargs
 obtain rfl : args = #[v0, v1, v2, v3] := Array.ext' hargs
 obtain ⟨rfl, rfl⟩ := trodVars_none hV
 have k0 := h0
 have lt0 : ∀ x ∈ p0, x.block < W.heap.size := by obtain ⟨m, hm⟩ := k0; exact DataW.trod_lt m _ _ _ hm
 obtain ⟨cs, rfl, hsz⟩ := okWide_struct Tryz.underlying25 (hval 0 25 v0 rfl rfl)
 obtain ⟨fuel, hf⟩ := h0
 obtain ⟨y0, y1, y2, n, _, hlen, hy0, hy1, hy2⟩ := Go.Deep.trod_struct3 Tryz.underlying25 hf
 rw [cells25] at hsz
 obtain ⟨c0, c1, c2, rfl⟩ : ∃ c0 c1 c2, cs = #[c0, c1, c2] := by
  obtain ⟨l⟩ := cs
  obtain ⟨a, b, c, rfl⟩ := list3 (by simpa using hsz)
  exact ⟨a, b, c, rfl⟩
 simp only [cells3, cells22, cells23] at hy0 hy1 hy2
 obtain ⟨wd, e0, _, _⟩ := DataW.trod_int Tryz.underlying3 hy0
 obtain ⟨ra, rc, rs, e2, hrl, hrs, hrat⟩ := openedR hy2
 simp [Value.cells] at e0 e2
 subst e0 e2
 obtain ⟨ta, tl, tc, rfl⟩ : ∃ ta tl tc, c1 = .slice ta tl tc := by
  have hy1' : DataW.trod enc Tryz.prog W 0 (fun _ => true) true n 22 [c1] = some y1 := by simpa [Value.cells] using hy1
  rcases Go.Deep.open_slice Tryz.underlying22 hy1' with ⟨h, _⟩ | ⟨a, len, cap, _, _, _, _, h, _⟩
  · simp at h; exact ⟨_, _, _, h⟩
  · simp at h; exact ⟨_, _, _, h⟩
 have hy1' : DataW.trod enc Tryz.prog W 0 (fun _ => true) true n 22 [.slice ta tl tc] = some y1 := by simpa [Value.cells] using hy1
 obtain ⟨ts, rfl, htl, hts, htat⟩ := openedS hy1'
 have k1 := h1
 have lt1 : ∀ x ∈ p1, x.block < W.heap.size := by obtain ⟨m, hm⟩ := k1; exact DataW.trod_lt m _ _ _ hm
 obtain ⟨cs1, rfl, hsz1⟩ := okWide_struct Tryz.underlying27 (hval 1 27 v1 rfl rfl)
 obtain ⟨fuel1, hf1⟩ := h1
 obtain ⟨x, hcs1, hsx⟩ := make_cells hf1
 obtain rfl : cs1 = #[.string x.nm, .string x.tl, .string x.ar] := by
  obtain ⟨l⟩ := cs1
  simp [Value.cells] at hcs1
  rw [hcs1]
 have k2 := h2
 have lt2 : ∀ x ∈ p2, x.block < W.heap.size := by obtain ⟨m, hm⟩ := k2; exact DataW.trod_lt m _ _ _ hm
 obtain ⟨fuel2, hf2⟩ := h2
 obtain ⟨a2, cap2, ls, hcs2, hl2, hs2, hat2⟩ := openedL hf2
 obtain ⟨a9, len9, cap9, rfl⟩ := okWide_slice Tryz.underlying28 (hval 2 28 v2 rfl rfl)
 have e9 : Value.slice a9 len9 cap9 = .slice a2 ls.length cap2 := by simpa [Value.cells] using hcs2
 injection e9 with e1 e2 e3
 subst e1 e2 e3
 have k3 := h3
 have lt3 : ∀ x ∈ p3, x.block < W.heap.size := by obtain ⟨m, hm⟩ := k3; exact DataW.trod_lt m _ _ _ hm
 obtain ⟨cs3, rfl, hsz3⟩ := okWide_struct Tryz.underlying30 (hval 3 30 v3 rfl rfl)
 obtain ⟨fuel3, hf3⟩ := h3
 obtain ⟨cd, tx, hcs3, htx⟩ := resu_cells hf3
 obtain rfl : cs3 = #[.int .i64 cd, .string tx] := by
  obtain ⟨l⟩ := cs3
  simp [Value.cells] at hcs3
  rw [hcs3]
 clear hA0 hcs1 hcs3
 have hM : maxLen ≤ 9223372036854775807 := by unfold maxLen; omega
 refine (c3 ⟨wd, ts, rs⟩ x ls cd tx ta ra a9 tc rc cap9 W ⟨⟨Nat.le_trans htl hM, fun i => Nat.le_trans (hts i) hM⟩, Nat.le_trans hrl hM, fun i => ⟨Nat.le_trans (hrs i).1 hM, Nat.le_trans (hrs i).2.1 hM, fun j => ⟨Nat.le_trans ((hrs i).2.2.1 j).1 hM, Nat.le_trans ((hrs i).2.2.1 j).2 hM⟩, Nat.le_trans (hrs i).2.2.2 hM⟩⟩ ⟨Nat.le_trans hsx.1 hM, Nat.le_trans hsx.2.1 hM, Nat.le_trans hsx.2.2 hM⟩ (Nat.le_trans hl2 hM) (fun j => ⟨Nat.le_trans (hs2 j).1 hM, Nat.le_trans (hs2 j).2 hM⟩) (Nat.le_trans htx hM) ⟨htat, hrat⟩ hat2 hmx).mono fun e W' ⟨he, bel⟩ => ?_
 subst he
 exact ⟨_, rfl, _, _, _, [], _, [], hW', trodAll_mk1 (shut_bool Tryz.underlying4 _), (trodAll_cons_mk (Below.trod laidOut (by kernel_rfl) (of_decide_eq_true (by kernel_rfl)) k0 bel lt0) (trodAll_cons_mk (Below.trod laidOut (by kernel_rfl) (of_decide_eq_true (by kernel_rfl)) k1 bel lt1) (trodAll_cons_mk (Below.trod laidOut (by kernel_rfl) (of_decide_eq_true (by kernel_rfl)) k2 bel lt2) (trodAll_cons_mk (Below.trod laidOut (by kernel_rfl) (of_decide_eq_true (by kernel_rfl)) k3 bel lt3) trodAll_mk0)))), rfl, bel.frame _, fun h => by cases h⟩
noncomputable def laidWorld (os : Os) : World := (withTab 3 (cells2 Rows.laid_math_bits_deBruijn64tab) (withTab 2 (cells2 Rows.laid_math_bits_deBruijn32tab) (withTab 1 (cells2 Rows.laid_internal_strconv_uint64pow10) (World.holding Tryz.prog os ⟨#[], #[], []⟩))))
set_option maxRecDepth 100000 in
theorem laid_met (os : Os) : laidMet Tryz.prog Rows.fnExactKeepRow.laid ((laidWorld os).forCall (fun _ _ => 0) ⟨#[], #[.agg #[.int .i64 0, .slice none 0 0, .slice none 0 0], .agg #[.string ⟨#[]⟩, .string ⟨#[]⟩, .string ⟨#[]⟩], .slice none 0 0, .agg #[.int .i64 0, .string ⟨#[]⟩]], []⟩).memory :=
 laidMet_of_run' 8 (by kernel_rfl) (by kernel_rfl)
set_option maxRecDepth 100000 in
theorem reads (os : Os) {H : Type} (enc : TypeId × Value → H) : ∃ ds gs places, DataW.whole enc Tryz.prog ((laidWorld os).forCall (fun _ _ => 0) ⟨#[], #[.agg #[.int .i64 0, .slice none 0 0, .slice none 0 0], .agg #[.string ⟨#[]⟩, .string ⟨#[]⟩, .string ⟨#[]⟩], .slice none 0 0, .agg #[.int .i64 0, .string ⟨#[]⟩]], []⟩).memory Tryz.f3.params.toList Rows.fnExactKeepSpec.vars false (#[.agg #[.int .i64 0, .slice none 0 0, .slice none 0 0], .agg #[.string ⟨#[]⟩, .string ⟨#[]⟩, .string ⟨#[]⟩], .slice none 0 0, .agg #[.int .i64 0, .string ⟨#[]⟩]] : Array Value).toList 8 = some (ds, gs, places) := by
 have h : (DataW.whole enc Tryz.prog ((laidWorld os).forCall (fun _ _ => 0) ⟨#[], #[.agg #[.int .i64 0, .slice none 0 0, .slice none 0 0], .agg #[.string ⟨#[]⟩, .string ⟨#[]⟩, .string ⟨#[]⟩], .slice none 0 0, .agg #[.int .i64 0, .string ⟨#[]⟩]], []⟩).memory Tryz.f3.params.toList Rows.fnExactKeepSpec.vars false (#[.agg #[.int .i64 0, .slice none 0 0, .slice none 0 0], .agg #[.string ⟨#[]⟩, .string ⟨#[]⟩, .string ⟨#[]⟩], .slice none 0 0, .agg #[.int .i64 0, .string ⟨#[]⟩]] : Array Value).toList 8).isSome = true := by kernel_rfl
 obtain ⟨⟨a, b, c⟩, e⟩ := Option.isSome_iff_exists.1 h
 exact ⟨a, b, c, e⟩
set_option maxRecDepth 100000 in
theorem lifted (os : Os) (started : os.Started) (H : Type) (enc : TypeId × Value → H) (F : Stop.Interp) :
 ReturnsInHanded {} Tryz.checked os 3 .any ((OpenSpec.ofChange Rows.fnExactKeepSpec).preRow enc Tryz.prog Tryz.f3 Rows.fnExactKeepRow.domain false Rows.fnExactKeepRow.laid) (((OpenSpec.ofChange Rows.fnExactKeepSpec).at F).post enc Tryz.prog Tryz.f3 false true false false) := by
 obtain ⟨ds, gs, places, hx⟩ := reads os enc
 refine returnsInHanded_of_row (C := Tryz.checked) (s := OpenSpec.ofChange Rows.fnExactKeepSpec) own started (by kernel_rfl) Tryz.func3
  (witness_row_atRef (enc := enc) (C := Tryz.checked) false (laidWorld os) #[.agg #[.int .i64 0, .slice none 0 0, .slice none 0 0], .agg #[.string ⟨#[]⟩, .string ⟨#[]⟩, .string ⟨#[]⟩], .slice none 0 0, .agg #[.int .i64 0, .string ⟨#[]⟩]] rfl (by kernel_rfl) (by kernel_rfl) (by kernel_rfl)
   (OpenSpec.preRow_of_cond 8 hx (by kernel_rfl) (fun k hk => by cases hk) (by kernel_rfl) (laid_met os))) ?_
 intro W base args ds gs before hval hW _ _ _ hL hSO _
 exact contract H enc W base args ds gs before hval hW hL hSO
theorem said : Rows.FnExactKeepSaid :=
 OpenClaim.holds_of_cond 3 Tryz.f3 rfl rfl rfl rfl rfl rfl rfl ⟨rfl, rfl, rfl, rfl, rfl⟩ rfl rfl rfl rfl rfl (by kernel_rfl) Tryz.func3 (by kernel_rfl)
  (of_decide_eq_true (by kernel_rfl)) (by unfold Func.isWrapper; first | (rw [if_pos (by decide +kernel)]; kernel_rfl) | (rw [if_neg (by decide +kernel)]; exact ⟨rfl, rfl⟩))
  (fun os started H enc _ F => by rw [OpenClaim.pre_eq_preRow]; exact lifted os started H enc F)
theorem plain (f : FuncId) (fn : Func) (hf : Tryz.pinned.checked.prog.funcNamed "loop.example/kiln/laws.FnExactKeep" = some f) (hfn : Tryz.pinned.checked.prog.funcs[f]? = some fn) :
 false = Tryz.pinned.checked.prog.looks [] ∧ ∀ (j : Nat) t, fn.params[j]? = some t → Tryz.pinned.checked.prog.wantsStandIn t = false := by
 obtain rfl : f = 3 := Option.some.inj ((show Tryz.prog.funcNamed "loop.example/kiln/laws.FnExactKeep" = some 3 by kernel_rfl).symm.trans hf) |>.symm
 obtain rfl : fn = Tryz.f3 := (Option.some.inj (Tryz.func3.symm.trans hfn)).symm
 refine ⟨by kernel_rfl, fun j t ht => ?_⟩
 rw [Tryz.params3] at ht
 have hm := Array.mem_of_getElem? ht
 simp at hm
 rcases hm with rfl | rfl | rfl | rfl
 · exact (show Tryz.prog.wantsStandIn 25 = false by kernel_rfl)
 · exact (show Tryz.prog.wantsStandIn 27 = false by kernel_rfl)
 · exact (show Tryz.prog.wantsStandIn 28 = false by kernel_rfl)
 · exact (show Tryz.prog.wantsStandIn 30 = false by kernel_rfl)
theorem card : Rows.FnExactKeepCardSaid :=
 Claim7.holds_tied_plain_at .later [] _ _ _ _ said (fun _ h => by cases h) (by kernel_rfl) (fun _ h => by cases h) fnExactKeep_row_tie rfl ⟨rfl, rfl⟩ (by kernel_rfl) rfl plain (by kernel_rfl)
end Go.Proofs.YtkhlekmicpmpkaaGreatDoor.fnExactKeep
namespace Go.Proofs.YtkhlekmicpmpkaaGreatDoor
theorem fnExactKeep_holds : Rows.FnExactKeepCardSaid := fnExactKeep.card
#print axioms fnExactKeep_holds
end Go.Proofs.YtkhlekmicpmpkaaGreatDoor
