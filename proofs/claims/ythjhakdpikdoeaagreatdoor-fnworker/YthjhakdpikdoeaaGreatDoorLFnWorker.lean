import Derived.Test.YthjhakdpikdoeaaGreatDoorNS
import Derived.Test.YthjhakdpikdoeaaGreatDoorLFp
set_option linter.unusedVariables false
set_option maxHeartbeats 8000000
set_option maxRecDepth 100000
namespace Go.Proofs.YthjhakdpikdoeaaGreatDoor.fnWorker
open Proofs.Tryz
open Go.ChangeShapes Go.WideShapes Go.ChangeAt Go.RowKit
theorem contract (H:Type) (enc:TypeId×Value->H) (W:World) (base:Nat) (args:Array Value) (ds gs:List (DataW H)) (before:List MemPlace)
 (hval:∀ (j:Nat) t v,Tryz.f3.params[j]?=some t->args[j]?=some v->Value.okWide prog W .any base t v)
 (hW:DataW.Whole enc prog Tryz.f3.params.toList Rows.fnWorkerSpec.vars false W args.toList ds gs before) (hL:laidMetH prog Rows.fnWorkerRow.laid W) (hSO:W.ShapedOpen prog):
 Calls prog 3 args W fun e W'=>∃ v,e=.returned v/\Rows.fnWorkerSpec.post enc prog Tryz.f3 false true false false W args v W':=by
 have hsh:ShapesAt W:=shapes_of_laid hL;have hmx:MaxAt W:=max_of_shaped hSO;have hW':=hW;obtain ⟨p,q,hA0,hV,rfl,hfz,hnd⟩:=hW;have hA:DataW.TrodAll enc prog W 0 (fun _=>true) true Tryz.f3.params.toList args.toList ds p:=hA0;rw [Tryz.params3] at hA hval;obtain ⟨v0,vs0,d0,ds0,p0,q0,hargs,rfl,rfl,h0,r0⟩:=trodAll_cons hA;obtain ⟨rfl,rfl,rfl⟩:=trodAll_nil r0;obtain rfl:args=#[v0]:=Array.ext' hargs;have hV1:=hV;obtain ⟨g1,t1,cs1,fuel1,dv,pv,rfl,hv1,hv2,hv3,hv4,rfl⟩:=trodVars_one hV;have k0:=h0;have lt0:∀ x∈p0,x.block<W.heap.size:=by obtain ⟨m,hm⟩:=k0;exact DataW.trod_lt m _ _ _ hm
 obtain ⟨a0,len0,cap0,rfl⟩:=okWide_slice underlying22 (hval 0 22 v0 rfl rfl);obtain ⟨z0,w0⟩:∃ zs,IsRow W a0 len0 cap0 zs:=by
  obtain ⟨fuel,hf⟩:=h0;rcases open_ints underlying22 underlying5 kr_ hf with ⟨hcs,_⟩ | ⟨x,l,c,zs,hcs,_,hl,hm,hz,_,hcell,hwz⟩
  · simp [Value.cells] at hcs
    obtain ⟨rfl,rfl,rfl⟩:=hcs;exact ⟨[],.inl ⟨rfl,rfl,rfl,rfl⟩⟩
  simp [Value.cells] at hcs;obtain ⟨rfl,rfl,rfl⟩:=hcs;exact ⟨zs,.inr ⟨_,rfl,hl,hm,by simpa using hz,hcell,hwz⟩⟩
 clear hA0;obtain ⟨hBy,hc0⟩:=bytes_of_row w0;refine (c3 a0 len0 cap0 W hc0 hBy hsh hmx).mono fun e W' ⟨he,bel⟩=>?_;subst he;exact ⟨_,rfl,_,_,_,[],_,_,hW',trodAll_mk1 (shut_bool underlying4 _),(trodAll_cons_mk (Below.trod laidOut kr_ (of_decide_eq_true kr_) k0 bel lt0) trodAll_mk0),Below.trodVars laidOut bel kr_ hV1,bel.frame _,fun h=>by cases h⟩
theorem lifted (os:Os) (started:os.Started) (H:Type) (enc:TypeId×Value->H) (F:Stop.Interp):
 ReturnsInHanded {} Tryz.checked os 3 .any ((OpenSpec.ofChange Rows.fnWorkerSpec).preRow enc prog Tryz.f3 Rows.fnWorkerRow.domain false Rows.fnWorkerRow.laid) (((OpenSpec.ofChange Rows.fnWorkerSpec).at F).post enc prog Tryz.f3 false true false false):=by
 obtain ⟨ds,gs,places,hx⟩:=reads os enc;refine returnsInHanded_of_row (C:=Tryz.checked) (s:=OpenSpec.ofChange Rows.fnWorkerSpec) own started kr_ func3
  (witness_row_atRef (enc:=enc) (C:=Tryz.checked) false (laidWorld os) #[.slice none 0 0] rfl kr_ kr_ kr_
   (OpenSpec.preRow_of_cond 8 hx kr_ (fun k hk=>by cases hk) kr_ (laid_met os))) ?_
 intro W base args ds gs before hval hW _ _ _ hL hSO _;exact contract H enc W base args ds gs before hval hW hL hSO
theorem said:Rows.FnWorkerSaid:=
 OpenClaim.holds_of_cond 3 Tryz.f3 rfl rfl rfl rfl rfl rfl rfl ⟨rfl,rfl,rfl,rfl,rfl⟩ rfl rfl rfl rfl rfl kr_ func3 kr_
  (of_decide_eq_true kr_) (by unfold Func.isWrapper;first | (rw [if_pos (by decide +kernel)];kernel_rfl) | (rw [if_neg (by decide +kernel)];exact ⟨rfl,rfl⟩))
  (fun os started H enc _ F=>by rw [OpenClaim.pre_eq_preRow];exact lifted os started H enc F)
theorem plain (f:FuncId) (fn:Func) (hf:Tryz.pinned.checked.prog.funcNamed "loop.example/kiln/laws.FnWorker"=some f) (hfn:Tryz.pinned.checked.prog.funcs[f]?=some fn):
 false=Tryz.pinned.checked.prog.looks []/\∀ (j:Nat) t,fn.params[j]?=some t->Tryz.pinned.checked.prog.wantsStandIn t=false:=by
 obtain rfl:f=3:=Option.some.inj ((show prog.funcNamed "loop.example/kiln/laws.FnWorker"=some 3 by kernel_rfl).symm.trans hf) |>.symm;obtain rfl:fn=Tryz.f3:=(Option.some.inj (func3.symm.trans hfn)).symm;refine ⟨kr_,fun j t ht=>?_⟩;rw [Tryz.params3] at ht;obtain rfl:t=22:=by simpa using Array.mem_of_getElem? ht
 exact (show prog.wantsStandIn 22=false by kernel_rfl)
theorem card:Rows.FnWorkerCardSaid:=
 Claim7.holds_tied_plain_at .later [] _ _ _ _ said (fun _ h=>by cases h) kr_ (fun _ h=>by cases h) fnWorker_row_tie rfl ⟨rfl,rfl⟩ kr_ rfl plain kr_
end Go.Proofs.YthjhakdpikdoeaaGreatDoor.fnWorker
namespace Go.Proofs.YthjhakdpikdoeaaGreatDoor
open Proofs.Tryz
theorem fnWorker_holds:Rows.FnWorkerCardSaid:=fnWorker.card
#print axioms fnWorker_holds
end Go.Proofs.YthjhakdpikdoeaaGreatDoor
