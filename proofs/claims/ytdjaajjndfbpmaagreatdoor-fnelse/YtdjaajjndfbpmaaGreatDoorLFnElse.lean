import Derived.Test.YtdjaajjndfbpmaaGreatDoorXI
import Derived.Test.YtdjaajjndfbpmaaGreatDoorLEp
set_option linter.unusedVariables false
set_option maxHeartbeats 8000000
set_option maxRecDepth 100000
namespace Go.Proofs.YtdjaajjndfbpmaaGreatDoor.fnElse
open Proofs.Tryz
open Go.ChangeShapes Go.WideShapes Go.ChangeAt Go.RowKit
variable {W w:World} {H:Type} {fuel g:Nat} {n nm:String} {p:List MemPlace}
theorem contract (H:Type) (enc:TypeId×Value->H) (W:World) (base:Nat) (args:Array Value) (ds gs:List (DataW H)) (before:List MemPlace)
 (hval:∀ (j:Nat) t v,Tryz.f3.params[j]?=some t->args[j]?=some v->Value.okWide prog W .any base t v)
 (hW:DataW.Whole enc prog Tryz.f3.params.toList Rows.fnElseSpec.vars false W args.toList ds gs before) (hL:laidMetH prog Rows.fnElseRow.laid W) (RZ:W.ShapedOpen prog):
 Calls prog 3 args W fun e W'=>∃ v,e=.returned v/\Rows.fnElseSpec.post enc prog Tryz.f3 false true false false W args v W':=by
 have hvz:=vars_of_laid hL RZ;have hsh:=shapes_of_laid hL;have hmx:=max_of_shaped RZ;have hW':=hW;obtain ⟨p,q,hA0,hV,rfl,hfz,hnd⟩:=hW;have hA:DataW.TrodAll enc prog W 0 (fun _=>true) true Tryz.f3.params.toList args.toList ds p:=hA0;rw [Tryz.params3] at hA hval;obtain ⟨v0,vs0,d0,ds0,p0,q0,hargs,rfl,rfl,h0,r0⟩:=trodAll_cons hA;obtain ⟨v1,vs1,d1,ds1,p1,q1,pY,rfl,rfl,h1,r1⟩:=trodAll_cons r0;obtain ⟨rfl,rfl,rfl⟩:=trodAll_nil r1;rw [pY] at hargs;obtain rfl:args=#[v0,v1]:=Array.ext' hargs;have hV1:=hV;obtain ⟨g1,g2,g3,g4,g5,g6,g7,g8,rfl⟩:∃ g1 g2 g3 g4 g5 g6 g7 g8,gs=[g1,g2,g3,g4,g5,g6,g7,g8]:=by
  have hV2:DataW.TrodVars enc prog W (fun _=>true) ["loop.example/kiln/impl.errTaken", "loop.example/kiln/impl.errLong", "loop.example/kiln/impl.errEnd", "loop.example/kiln/impl.errShape", "loop.example/kiln/impl.errMany", "loop.example/kiln/impl.errMake", "loop.example/kiln/impl.errOrder", "loop.example/kiln/impl.shapes"] gs q:=hV;rcases gs with _ | ⟨g1,gs⟩
  · exact hV2.elim
  obtain ⟨_,_,_,_,_,_,_,_,_,_,hV3,_⟩:=hV2;rcases gs with _ | ⟨g2,gs⟩
  · exact hV3.elim
  obtain ⟨_,_,_,_,_,_,_,_,_,_,hV4,_⟩:=hV3;rcases gs with _ | ⟨g3,gs⟩
  · exact hV4.elim
  obtain ⟨_,_,_,_,_,_,_,_,_,_,hV5,_⟩:=hV4;rcases gs with _ | ⟨g4,gs⟩
  · exact hV5.elim
  obtain ⟨_,_,_,_,_,_,_,_,_,_,hV6,_⟩:=hV5;rcases gs with _ | ⟨g5,gs⟩
  · exact hV6.elim
  obtain ⟨_,_,_,_,_,_,_,_,_,_,hV7,_⟩:=hV6;rcases gs with _ | ⟨g6,gs⟩
  · exact hV7.elim
  obtain ⟨_,_,_,_,_,_,_,_,_,_,hV8,_⟩:=hV7;rcases gs with _ | ⟨g7,gs⟩
  · exact hV8.elim
  obtain ⟨_,_,_,_,_,_,_,_,_,_,hV9,_⟩:=hV8;rcases gs with _ | ⟨g8,gs⟩
  · exact hV9.elim
  obtain ⟨_,_,_,_,_,_,_,_,_,_,hV10,_⟩:=hV9;rcases gs with _ | ⟨g9,gs⟩
  · exact ⟨_,_,_,_,_,_,_,_,rfl⟩
  exact hV10.elim
 have k0:=h0;have lt0:∀ x∈p0,x.block<W.heap.size:=by obtain ⟨m,hm⟩:=k0;exact DataW.trod_lt m _ _ _ hm
 obtain ⟨a0,a0p,cap0,rfl⟩:=okWide_slice underlying22 (hval 0 22 v0 rfl rfl);obtain ⟨z0,w0⟩:∃ zs,IsRow W a0 a0p cap0 zs:=by
  obtain ⟨fuel,hf⟩:=h0;rcases open_ints underlying22 underlying5 U2 hf with ⟨hcs,_⟩ | ⟨x,l,c,zs,hcs,_,hl,hm,hz,_,hcell,hwz⟩
  · simp [Value.cells] at hcs
    obtain ⟨rfl,rfl,rfl⟩:=hcs;exact ⟨[],.inl ⟨rfl,rfl,rfl,rfl⟩⟩
  simp [Value.cells] at hcs;obtain ⟨rfl,rfl,rfl⟩:=hcs;exact ⟨zs,.inr ⟨_,rfl,hl,hm,by simpa using hz,hcell,hwz⟩⟩
 have k1:=h1;have lt1:∀ x∈p1,x.block<W.heap.size:=by obtain ⟨m,hm⟩:=k1;exact DataW.trod_lt m _ _ _ hm
 obtain ⟨a1,a0q,qY,rfl⟩:=okWide_slice underlying22 (hval 1 22 v1 rfl rfl);obtain ⟨z1,w1⟩:∃ zs,IsRow W a1 a0q qY zs:=by
  obtain ⟨fuel,hf⟩:=h1;rcases open_ints underlying22 underlying5 U2 hf with ⟨hcs,_⟩ | ⟨x,l,c,zs,hcs,_,hl,hm,hz,_,hcell,hwz⟩
  · simp [Value.cells] at hcs
    obtain ⟨rfl,rfl,rfl⟩:=hcs;exact ⟨[],.inl ⟨rfl,rfl,rfl,rfl⟩⟩
  simp [Value.cells] at hcs;obtain ⟨rfl,rfl,rfl⟩:=hcs;exact ⟨zs,.inr ⟨_,rfl,hl,hm,by simpa using hz,hcell,hwz⟩⟩
 clear hA0;obtain ⟨hBy,hc0⟩:=bytes_of_row w0;obtain ⟨hBz,hc1⟩:=bytes_of_row w1;refine (c3 a0 a0p cap0 a1 a0q qY W hc0 hc1 hBy hBz ⟨hvz,hsh,hmx,Qk hsh⟩).mono fun e W' ⟨he,pg⟩=>?_;subst he;exact ⟨_,rfl,_,_,_,[],_,_,hW',trodAll_mk1 (shut_bool underlying4 _),(trodAll_cons_mk (Below.trod LO.laidOut U2 (of_decide_eq_true U2) k0 pg lt0) (trodAll_cons_mk (Below.trod LO.laidOut U2 (of_decide_eq_true U2) k1 pg lt1) trodAll_mk0)),Below.trodVars LO.laidOut pg U2 hV1,pg.frame _,fun h=>by cases h⟩
theorem lifted (os:Os) (started:os.Started) (H:Type) (enc:TypeId×Value->H) (F:Stop.Interp):
 ReturnsInHanded {} Tryz.checked os 3 .any ((OpenSpec.ofChange Rows.fnElseSpec).preRow enc prog Tryz.f3 Rows.fnElseRow.domain false Rows.fnElseRow.laid) (((OpenSpec.ofChange Rows.fnElseSpec).at F).post enc prog Tryz.f3 false true false false):=by
 obtain ⟨ds,gs,places,hx⟩:=reads os enc;refine returnsInHanded_of_row (C:=Tryz.checked) (s:=OpenSpec.ofChange Rows.fnElseSpec) LO.own started U2 func3
  (witness_row_atRef (enc:=enc) (C:=Tryz.checked) false (laidWorld os) #[.slice none 0 0,.slice none 0 0] rfl U2 U2 U2
   (OpenSpec.preRow_of_cond 8 hx U2 (fun k hk=>by cases hk) U2 (laid_met os))) ?_
 intro W base args ds gs before hval hW _ _ _ hL RZ _;exact contract H enc W base args ds gs before hval hW hL RZ
theorem said:Rows.FnElseSaid:=
 OpenClaim.holds_of_cond 3 Tryz.f3 rfl rfl rfl rfl rfl rfl rfl ⟨rfl,rfl,rfl,rfl,rfl⟩ rfl rfl rfl rfl rfl U2 func3 U2
  (of_decide_eq_true U2) (by unfold Func.isWrapper;first | (rw [if_pos (by decide +kernel)];kernel_rfl) | (rw [if_neg (by decide +kernel)];exact ⟨rfl,rfl⟩))
  (fun os started H enc _ F=>by rw [OpenClaim.pre_eq_preRow];exact lifted os started H enc F)
theorem plain (f:FuncId) (fn:Func) (hf:Tryz.pinned.checked.prog.funcNamed "loop.example/kiln/laws.FnElse"=some f) (hfn:Tryz.pinned.checked.prog.funcs[f]?=some fn):
 true=Tryz.pinned.checked.prog.looks []/\∀ (j:Nat) t,fn.params[j]?=some t->Tryz.pinned.checked.prog.wantsStandIn t=false:=by
 obtain rfl:f=3:=Option.some.inj ((show prog.funcNamed "loop.example/kiln/laws.FnElse"=some 3 by kernel_rfl).symm.trans hf) |>.symm;obtain rfl:fn=Tryz.f3:=(Option.some.inj (func3.symm.trans hfn)).symm;refine ⟨U2,fun j t ht=>?_⟩;rw [Tryz.params3] at ht;obtain rfl:t=22:=by simpa using Array.mem_of_getElem? ht
 exact (show prog.wantsStandIn 22=false by kernel_rfl)
theorem card:Rows.FnElseCardSaid:=
 Claim7.holds_tied_plain_at .later [] _ _ _ _ said (fun _ h=>by cases h) U2 (fun _ h=>by cases h) fnElse_row_tie rfl ⟨rfl,rfl⟩ U2 rfl plain U2
end Go.Proofs.YtdjaajjndfbpmaaGreatDoor.fnElse
namespace Go.Proofs.YtdjaajjndfbpmaaGreatDoor
open Proofs.Tryz
theorem fnElse_holds:Rows.FnElseCardSaid:=fnElse.card
#print axioms fnElse_holds
end Go.Proofs.YtdjaajjndfbpmaaGreatDoor
