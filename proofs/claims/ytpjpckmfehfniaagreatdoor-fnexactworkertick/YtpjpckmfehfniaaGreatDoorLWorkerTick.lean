import Derived.Test.YtpjpckmfehfniaaGreatDoorH13
import Derived.Test.YtpjpckmfehfniaaGreatDoorZC37
import Derived.Test.YtpjpckmfehfniaaGreatDoorT11
import Derived.Test.YtpjpckmfehfniaaGreatDoorCards
import Derived.Test.YtpjpckmfehfniaaGreatDoorTie
import Derived.Deep.DeepHandedRow
import Derived.Deep.DeepWitnessRowRef
import Derived.SevenTiedAt
import Derived.Shelf.Vars
namespace Go.Proofs.YtpjpckmfehfniaaGreatDoor.fnExactWorkerTick
open Go.ChangeShapes Go.WideShapes Go.ChangeAt Go.RowKit
set_option linter.unusedVariables false
theorem max_of_shaped {w : World} (h : w.ShapedOpen Tryz.prog) : MaxAt w := by
 obtain ⟨m, hm⟩ := Go.Proofs.cell_of_shapedOpen_int (g := 1) (zero := #[.int .i64 0]) (t := 3) h (of_decide_eq_true (by kernel_rfl)) (by kernel_rfl) rfl (by kernel_rfl) (by kernel_rfl) Tryz.underlying3
 refine ⟨?_, m, hm⟩
 rcases Nat.lt_or_ge 1 w.heap.size with h1 | h1
 · exact h1
 · simp [World.cell?, Array.getElem?_eq_none h1] at hm
set_option maxHeartbeats 4000000 in
set_option maxRecDepth 100000 in
theorem contract (H : Type) (enc : TypeId × Value → H) (W : World) (base : Nat) (args : Array Value) (ds gs : List (DataW H)) (before : List MemPlace)
 (hval : ∀ (j : Nat) t v, Tryz.f4.params[j]? = some t → args[j]? = some v → Value.okWide Tryz.prog W .any base t v)
 (hW : DataW.Whole enc Tryz.prog Tryz.f4.params.toList Rows.fnExactWorkerTickSpec.vars false W args.toList ds gs before) (hL : laidMetH Tryz.prog Rows.fnExactWorkerTickRow.laid W) (hSO : W.ShapedOpen Tryz.prog) :
 Calls Tryz.prog 4 args W fun e W' => ∃ v, e = .returned v ∧ Rows.fnExactWorkerTickSpec.post enc Tryz.prog Tryz.f4 false true false false W args v W' := by
 have hsh : ShapesAt W := by
  have hL' : laidMet Tryz.prog Rows.fnExactWorkerTickRow.laid W := hL
  exact shapes_of_reads (Go.Lib.laidMet.reads hL' (by simp [Rows.fnExactWorkerTickRow]))
 have hmx : MaxAt W := max_of_shaped hSO
 have hW' := hW
 obtain ⟨p, q, hA0, hV, rfl, hfz, hnd⟩ := hW
 have hA : DataW.TrodAll enc Tryz.prog W 0 (fun _ => true) true Tryz.f4.params.toList args.toList ds p := hA0
 rw [Tryz.params4] at hA hval
 obtain ⟨v0, vs0, d0, ds0, p0, q0, hargs, rfl, rfl, h0, r0⟩ := trodAll_cons hA
 obtain ⟨rfl, rfl, rfl⟩ := trodAll_nil r0
 obtain rfl : args = #[v0] := Array.ext' hargs
 have hV1 := hV
 obtain ⟨g1, t1, cs1, fuel1, dv, pv, rfl, hv1, hv2, hv3, hv4, rfl⟩ := trodVars_one hV
 have k0 := h0
 have lt0 : ∀ x ∈ p0, x.block < W.heap.size := by obtain ⟨m, hm⟩ := k0; exact DataW.trod_lt m _ _ _ hm
 obtain ⟨cs, rfl, hsz⟩ := okWide_struct Tryz.underlying45 (hval 0 45 v0 rfl rfl)
 obtain ⟨fuel, hf⟩ := h0
 obtain ⟨x, ai, ci, hcs, hs, hat⟩ := M.wk_cells hf
 obtain rfl : cs = #[.int .i64 x.no, .bool x.up, .bool x.has, .int .i64 x.of.kd, .int .i64 x.of.to, .int .i64 x.of.fr, .int .i64 x.of.ep, .int .i64 x.of.ed, .string x.of.km.nm, .string x.of.km.tl, .string x.of.km.ar, .slice ai x.of.ls.length ci, .int .i64 x.of.ct, .bool x.of.tn.over, .int .i64 x.of.tn.cd, .string x.of.tn.tx, .bool x.of.tn.has, .string x.of.tn.nm, .int .i64 x.of.tn.st] := by
  obtain ⟨l⟩ := cs
  simp [Value.cells] at hcs
  rw [hcs]
 clear hA0 hcs
 have hM : maxLen ≤ 9223372036854775807 := by unfold maxLen; omega
 refine (c4 x ai ci W ⟨⟨Nat.le_trans hs.1.1 hM, Nat.le_trans hs.1.2.1 hM, Nat.le_trans hs.1.2.2 hM⟩, ⟨Nat.le_trans hs.2.1.1 hM, fun j => ⟨Nat.le_trans (hs.2.1.2 j).1 hM, Nat.le_trans (hs.2.1.2 j).2 hM⟩⟩, ⟨Nat.le_trans hs.2.2.1 hM, Nat.le_trans hs.2.2.2 hM⟩⟩ hat hsh hmx).mono fun e W' ⟨he, bel⟩ => ?_
 subst he
 exact ⟨_, rfl, _, _, _, [], _, _, hW', trodAll_mk1 (shut_bool Tryz.underlying4 _), (trodAll_cons_mk (Below.trod M.laidOut (by kernel_rfl) (of_decide_eq_true (by kernel_rfl)) k0 bel lt0) trodAll_mk0), Below.trodVars M.laidOut bel (by kernel_rfl) hV1, bel.frame _, fun h => by cases h⟩
noncomputable def laidWorld (os : Os) : World := M.withTab 6 (M.cells2 Rows.laid_math_bits_deBruijn64tab) (M.withTab 5 (M.cells2 Rows.laid_math_bits_deBruijn32tab) (M.withTab 2 (M.cells2 Rows.laid_internal_strconv_uint64pow10) (M.withTab 3 (M.cells2 Rows.laid_unicode_utf8_first) (M.withTab 4 (M.cells2 Rows.laid_unicode_utf8_acceptRanges) (M.withTab 0 (M.cells2 Rows.laid_loop_example_kiln_impl_shapes) (World.holding Tryz.prog os ⟨#[], #[], []⟩))))))
set_option maxRecDepth 100000 in
theorem laid_met (os : Os) : laidMet Tryz.prog Rows.fnExactWorkerTickRow.laid ((laidWorld os).forCall (fun _ _ => 0) ⟨#[], #[.agg #[.int .i64 0, .bool false, .bool false, .int .i64 0, .int .i64 0, .int .i64 0, .int .i64 0, .int .i64 0, .string ⟨#[]⟩, .string ⟨#[]⟩, .string ⟨#[]⟩, .slice none 0 0, .int .i64 0, .bool false, .int .i64 0, .string ⟨#[]⟩, .bool false, .string ⟨#[]⟩, .int .i64 0]], []⟩).memory :=
 laidMet_of_run' 8 (by kernel_rfl) (by kernel_rfl)
set_option maxRecDepth 100000 in
theorem reads (os : Os) {H : Type} (enc : TypeId × Value → H) : ∃ ds gs places, DataW.whole enc Tryz.prog ((laidWorld os).forCall (fun _ _ => 0) ⟨#[], #[.agg #[.int .i64 0, .bool false, .bool false, .int .i64 0, .int .i64 0, .int .i64 0, .int .i64 0, .int .i64 0, .string ⟨#[]⟩, .string ⟨#[]⟩, .string ⟨#[]⟩, .slice none 0 0, .int .i64 0, .bool false, .int .i64 0, .string ⟨#[]⟩, .bool false, .string ⟨#[]⟩, .int .i64 0]], []⟩).memory Tryz.f4.params.toList Rows.fnExactWorkerTickSpec.vars false (#[.agg #[.int .i64 0, .bool false, .bool false, .int .i64 0, .int .i64 0, .int .i64 0, .int .i64 0, .int .i64 0, .string ⟨#[]⟩, .string ⟨#[]⟩, .string ⟨#[]⟩, .slice none 0 0, .int .i64 0, .bool false, .int .i64 0, .string ⟨#[]⟩, .bool false, .string ⟨#[]⟩, .int .i64 0]] : Array Value).toList 8 = some (ds, gs, places) := by
 have h : (DataW.whole enc Tryz.prog ((laidWorld os).forCall (fun _ _ => 0) ⟨#[], #[.agg #[.int .i64 0, .bool false, .bool false, .int .i64 0, .int .i64 0, .int .i64 0, .int .i64 0, .int .i64 0, .string ⟨#[]⟩, .string ⟨#[]⟩, .string ⟨#[]⟩, .slice none 0 0, .int .i64 0, .bool false, .int .i64 0, .string ⟨#[]⟩, .bool false, .string ⟨#[]⟩, .int .i64 0]], []⟩).memory Tryz.f4.params.toList Rows.fnExactWorkerTickSpec.vars false (#[.agg #[.int .i64 0, .bool false, .bool false, .int .i64 0, .int .i64 0, .int .i64 0, .int .i64 0, .int .i64 0, .string ⟨#[]⟩, .string ⟨#[]⟩, .string ⟨#[]⟩, .slice none 0 0, .int .i64 0, .bool false, .int .i64 0, .string ⟨#[]⟩, .bool false, .string ⟨#[]⟩, .int .i64 0]] : Array Value).toList 8).isSome = true := by kernel_rfl
 obtain ⟨⟨a, b, c⟩, e⟩ := Option.isSome_iff_exists.1 h
 exact ⟨a, b, c, e⟩
set_option maxRecDepth 100000 in
theorem lifted (os : Os) (started : os.Started) (H : Type) (enc : TypeId × Value → H) (F : Stop.Interp) :
 ReturnsInHanded {} Tryz.checked os 4 .any ((OpenSpec.ofChange Rows.fnExactWorkerTickSpec).preRow enc Tryz.prog Tryz.f4 Rows.fnExactWorkerTickRow.domain false Rows.fnExactWorkerTickRow.laid) (((OpenSpec.ofChange Rows.fnExactWorkerTickSpec).at F).post enc Tryz.prog Tryz.f4 false true false false) := by
 obtain ⟨ds, gs, places, hx⟩ := reads os enc
 refine returnsInHanded_of_row (C := Tryz.checked) (s := OpenSpec.ofChange Rows.fnExactWorkerTickSpec) M.own started (by kernel_rfl) Tryz.func4
  (witness_row_atRef (enc := enc) (C := Tryz.checked) false (laidWorld os) #[.agg #[.int .i64 0, .bool false, .bool false, .int .i64 0, .int .i64 0, .int .i64 0, .int .i64 0, .int .i64 0, .string ⟨#[]⟩, .string ⟨#[]⟩, .string ⟨#[]⟩, .slice none 0 0, .int .i64 0, .bool false, .int .i64 0, .string ⟨#[]⟩, .bool false, .string ⟨#[]⟩, .int .i64 0]] rfl (by kernel_rfl) (by kernel_rfl) (by kernel_rfl)
   (OpenSpec.preRow_of_cond 8 hx (by kernel_rfl) (fun k hk => by cases hk) (by kernel_rfl) (laid_met os))) ?_
 intro W base args ds gs before hval hW _ _ _ hL hSO _
 exact contract H enc W base args ds gs before hval hW hL hSO
theorem said : Rows.FnExactWorkerTickSaid :=
 OpenClaim.holds_of_cond 4 Tryz.f4 rfl rfl rfl rfl rfl rfl rfl ⟨rfl, rfl, rfl, rfl, rfl⟩ rfl rfl rfl rfl rfl (by kernel_rfl) Tryz.func4 (by kernel_rfl)
  (of_decide_eq_true (by kernel_rfl)) (by unfold Func.isWrapper; first | (rw [if_pos (by decide +kernel)]; kernel_rfl) | (rw [if_neg (by decide +kernel)]; exact ⟨rfl, rfl⟩))
  (fun os started H enc _ F => by rw [OpenClaim.pre_eq_preRow]; exact lifted os started H enc F)
theorem plain (f : FuncId) (fn : Func) (hf : Tryz.pinned.checked.prog.funcNamed "loop.example/kiln/laws.FnExactWorkerTick" = some f) (hfn : Tryz.pinned.checked.prog.funcs[f]? = some fn) :
 false = Tryz.pinned.checked.prog.looks [] ∧ ∀ (j : Nat) t, fn.params[j]? = some t → Tryz.pinned.checked.prog.wantsStandIn t = false := by
 obtain rfl : f = 4 := Option.some.inj ((show Tryz.prog.funcNamed "loop.example/kiln/laws.FnExactWorkerTick" = some 4 by kernel_rfl).symm.trans hf) |>.symm
 obtain rfl : fn = Tryz.f4 := (Option.some.inj (Tryz.func4.symm.trans hfn)).symm
 refine ⟨by kernel_rfl, fun j t ht => ?_⟩
 rw [Tryz.params4] at ht
 have hm := Array.mem_of_getElem? ht
 simp at hm
 subst hm
 exact (show Tryz.prog.wantsStandIn 45 = false by kernel_rfl)
theorem card : Rows.FnExactWorkerTickCardSaid :=
 Claim7.holds_tied_plain_at .later [] _ _ _ _ said (fun _ h => by cases h) (by kernel_rfl) (fun _ h => by cases h) fnExactWorkerTick_row_tie rfl ⟨rfl, rfl⟩ (by kernel_rfl) rfl plain (by kernel_rfl)
end Go.Proofs.YtpjpckmfehfniaaGreatDoor.fnExactWorkerTick
namespace Go.Proofs.YtpjpckmfehfniaaGreatDoor
theorem fnExactWorkerTick_holds : Rows.FnExactWorkerTickCardSaid := fnExactWorkerTick.card
#print axioms fnExactWorkerTick_holds
end Go.Proofs.YtpjpckmfehfniaaGreatDoor
