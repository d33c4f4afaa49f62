import Derived.Test.YthfmmimmfcnhmaaGreatDoorEE
import Derived.Test.YthfmmimmfcnhmaaGreatDoorLDp
set_option linter.unusedVariables false
set_option maxHeartbeats 8000000
set_option maxRecDepth 100000
namespace Go.Proofs.YthfmmimmfcnhmaaGreatDoor.fnExactDeeds
open Proofs.Tryz
open Go.ChangeShapes Go.WideShapes Go.ChangeAt Go.RowKit
variable {W w:World} {H:Type} {fuel g:Nat} {n nm:String} {p:List MemPlace}
theorem contract (H:Type) (enc:TypeId×Value->H) (W:World) (base:Nat) (args:Array Value) (ds gs:List (DataW H)) (before:List MemPlace)
 (hval:∀ (j:Nat) t v,Tryz.f3.params[j]?=some t->args[j]?=some v->Value.okWide prog W .any base t v)
 (hW:DataW.Whole enc prog Tryz.f3.params.toList Rows.fnExactDeedsSpec.vars false W args.toList ds gs before) (hL:laidMetH prog Rows.fnExactDeedsRow.laid W) (hSO:W.ShapedOpen prog):
 Calls prog 3 args W fun e W'=>∃ v,e=.returned v/\Rows.fnExactDeedsSpec.post enc prog Tryz.f3 false true false false W args v W':=by
 have hvz:G.VarsZ W:=vars_of_laid hL hSO
 have hsh:ShapesAt W:=shapes_of_laid hL
 have hmx:MaxAt W:=max_of_shaped hSO
 have hW':=hW
 obtain ⟨p,q,hA0,hV,rfl,hfz,hnd⟩:=hW
 have hA:DataW.TrodAll enc prog W 0 (fun _=>true) true Tryz.f3.params.toList args.toList ds p:=hA0
 rw [Tryz.params3] at hA hval
 obtain ⟨v0,vs0,d0,ds0,p0,q0,hargs,rfl,rfl,h0,r0⟩:=trodAll_cons hA
 obtain ⟨v1,vs1,d1,ds1,p1,q1,hargs1,rfl,rfl,h1,r1⟩:=trodAll_cons r0
 obtain ⟨rfl,rfl,rfl⟩:=trodAll_nil r1
 rw [hargs1] at hargs
 obtain rfl:args=#[v0,v1]:=Array.ext' hargs
 have hV1:=hV
 obtain ⟨g1,g2,g3,g4,g5,g6,g7,g8,rfl⟩:∃ g1 g2 g3 g4 g5 g6 g7 g8,gs=[g1,g2,g3,g4,g5,g6,g7,g8]:=by
  have hV2:DataW.TrodVars enc prog W (fun _=>true) ["loop.example/kiln/impl.errTaken", "loop.example/kiln/impl.errLong", "loop.example/kiln/impl.errEnd", "loop.example/kiln/impl.errShape", "loop.example/kiln/impl.errMany", "loop.example/kiln/impl.errMake", "loop.example/kiln/impl.errOrder", "loop.example/kiln/impl.shapes"] gs q:=hV
  rcases gs with _ | ⟨g1,gs⟩
  · exact hV2.elim
  obtain ⟨_,_,_,_,_,_,_,_,_,_,hV3,_⟩:=hV2
  rcases gs with _ | ⟨g2,gs⟩
  · exact hV3.elim
  obtain ⟨_,_,_,_,_,_,_,_,_,_,hV4,_⟩:=hV3
  rcases gs with _ | ⟨g3,gs⟩
  · exact hV4.elim
  obtain ⟨_,_,_,_,_,_,_,_,_,_,hV5,_⟩:=hV4
  rcases gs with _ | ⟨g4,gs⟩
  · exact hV5.elim
  obtain ⟨_,_,_,_,_,_,_,_,_,_,hV6,_⟩:=hV5
  rcases gs with _ | ⟨g5,gs⟩
  · exact hV6.elim
  obtain ⟨_,_,_,_,_,_,_,_,_,_,hV7,_⟩:=hV6
  rcases gs with _ | ⟨g6,gs⟩
  · exact hV7.elim
  obtain ⟨_,_,_,_,_,_,_,_,_,_,hV8,_⟩:=hV7
  rcases gs with _ | ⟨g7,gs⟩
  · exact hV8.elim
  obtain ⟨_,_,_,_,_,_,_,_,_,_,hV9,_⟩:=hV8
  rcases gs with _ | ⟨g8,gs⟩
  · exact hV9.elim
  obtain ⟨_,_,_,_,_,_,_,_,_,_,hV10,_⟩:=hV9
  rcases gs with _ | ⟨g9,gs⟩
  · exact ⟨_,_,_,_,_,_,_,_,rfl⟩
  exact hV10.elim
 have k0:=h0
 have lt0:∀ x∈p0,x.block<W.heap.size:=by obtain ⟨m,hm⟩:=k0;exact DataW.trod_lt m _ _ _ hm
 obtain ⟨cs1,rfl,hsz1⟩:=okWide_struct underlying24 (hval 0 24 v0 rfl rfl)
 obtain ⟨fuel1,hf1⟩:=h0
 obtain ⟨yt,nt,_,hlent,hyt⟩:=trod_struct1 underlying24 hf1
 rw [LO.cells24] at hsz1
 obtain ⟨ct,rfl⟩:∃ c,cs1=#[c]:=Array.size_eq_one_iff.1 hsz1
 simp only [LO.cells22] at hyt
 obtain ⟨a,cap,is,hcst,hlt,hst,hatt⟩:=LO.opened hyt
 simp [Value.cells] at hcst
 subst hcst
 have k1:=h1
 have lt1:∀ x∈p1,x.block<W.heap.size:=by obtain ⟨m,hm⟩:=k1;exact DataW.trod_lt m _ _ _ hm
 obtain ⟨nm,rfl⟩:=okWide_string underlying9 (hval 1 9 v1 rfl rfl)
 clear hA0
 have hM:maxLen<=9223372036854775807:=by unfold maxLen;omega
 refine (c3 a cap is nm W (fun i=>⟨Nat.le_trans (hst i).1 hM,Nat.le_trans (hst i).2 hM⟩) (Nat.le_trans hlt hM) hatt hvz hsh hmx (ten_of_shapes hsh)).mono fun e W' ⟨he,bel⟩=>?_
 subst he
 exact ⟨_,rfl,_,_,_,[],_,_,hW',trodAll_mk1 (shut_bool underlying4 _),(trodAll_cons_mk (Below.trod LO.laidOut (by kernel_rfl) (of_decide_eq_true (by kernel_rfl)) k0 bel lt0) (trodAll_cons_mk (Below.trod LO.laidOut (by kernel_rfl) (of_decide_eq_true (by kernel_rfl)) k1 bel lt1) trodAll_mk0)),Below.trodVars LO.laidOut bel (by kernel_rfl) hV1,bel.frame _,fun h=>by cases h⟩
theorem lifted (os:Os) (started:os.Started) (H:Type) (enc:TypeId×Value->H) (F:Stop.Interp):
 ReturnsInHanded {} Tryz.checked os 3 .any ((OpenSpec.ofChange Rows.fnExactDeedsSpec).preRow enc prog Tryz.f3 Rows.fnExactDeedsRow.domain false Rows.fnExactDeedsRow.laid) (((OpenSpec.ofChange Rows.fnExactDeedsSpec).at F).post enc prog Tryz.f3 false true false false):=by
 obtain ⟨ds,gs,places,hx⟩:=reads os enc
 refine returnsInHanded_of_row (C:=Tryz.checked) (s:=OpenSpec.ofChange Rows.fnExactDeedsSpec) LO.own started (by kernel_rfl) func3
  (witness_row_atRef (enc:=enc) (C:=Tryz.checked) false (laidWorld os) #[.agg #[.slice none 0 0],.string ⟨#[]⟩] rfl (by kernel_rfl) (by kernel_rfl) (by kernel_rfl)
   (OpenSpec.preRow_of_cond 8 hx (by kernel_rfl) (fun k hk=>by cases hk) (by kernel_rfl) (laid_met os))) ?_
 intro W base args ds gs before hval hW _ _ _ hL hSO _
 exact contract H enc W base args ds gs before hval hW hL hSO
theorem said:Rows.FnExactDeedsSaid:=
 OpenClaim.holds_of_cond 3 Tryz.f3 rfl rfl rfl rfl rfl rfl rfl ⟨rfl,rfl,rfl,rfl,rfl⟩ rfl rfl rfl rfl rfl (by kernel_rfl) func3 (by kernel_rfl)
  (of_decide_eq_true (by kernel_rfl)) (by unfold Func.isWrapper;first | (rw [if_pos (by decide +kernel)];kernel_rfl) | (rw [if_neg (by decide +kernel)];exact ⟨rfl,rfl⟩))
  (fun os started H enc _ F=>by rw [OpenClaim.pre_eq_preRow];exact lifted os started H enc F)
theorem plain (f:FuncId) (fn:Func) (hf:Tryz.pinned.checked.prog.funcNamed "loop.example/kiln/laws.FnExactDeeds"=some f) (hfn:Tryz.pinned.checked.prog.funcs[f]?=some fn):
 true=Tryz.pinned.checked.prog.looks []/\∀ (j:Nat) t,fn.params[j]?=some t->Tryz.pinned.checked.prog.wantsStandIn t=false:=by
 obtain rfl:f=3:=Option.some.inj ((show prog.funcNamed "loop.example/kiln/laws.FnExactDeeds"=some 3 by kernel_rfl).symm.trans hf) |>.symm
 obtain rfl:fn=Tryz.f3:=(Option.some.inj (func3.symm.trans hfn)).symm
 refine ⟨by kernel_rfl,fun j t ht=>?_⟩
 rw [Tryz.params3] at ht
 have hm:=Array.mem_of_getElem? ht
 simp at hm
 rcases hm with rfl | rfl
 · exact (show prog.wantsStandIn 24=false by kernel_rfl)
 exact (show prog.wantsStandIn 9=false by kernel_rfl)
theorem card:Rows.FnExactDeedsCardSaid:=
 Claim7.holds_tied_plain_at .later [] _ _ _ _ said (fun _ h=>by cases h) (by kernel_rfl) (fun _ h=>by cases h) fnExactDeeds_row_tie rfl ⟨rfl,rfl⟩ (by kernel_rfl) rfl plain (by kernel_rfl)
end Go.Proofs.YthfmmimmfcnhmaaGreatDoor.fnExactDeeds
namespace Go.Proofs.YthfmmimmfcnhmaaGreatDoor
open Proofs.Tryz
theorem fnExactDeeds_holds:Rows.FnExactDeedsCardSaid:=fnExactDeeds.card
#print axioms fnExactDeeds_holds
end Go.Proofs.YthfmmimmfcnhmaaGreatDoor
