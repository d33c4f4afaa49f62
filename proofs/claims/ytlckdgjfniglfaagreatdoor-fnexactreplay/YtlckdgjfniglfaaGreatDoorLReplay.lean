import Derived.Test.YtlckdgjfniglfaaGreatDoorR9
import Derived.Lib.LaidTab
import Derived.Test.YtlckdgjfniglfaaGreatDoorCards
import Derived.Test.YtlckdgjfniglfaaGreatDoorTie
import Derived.Deep.Slices
import Derived.Deep.Strs
import Derived.SliceStrings
import Derived.ChangeArms
import Derived.OpenVars
import Derived.ProofKit
import Derived.OpenShut
import Derived.ChangeOld
import Derived.LaidMore
import Derived.LaidOnce
import Derived.LaidHandle
import Derived.HandedShaped
import Derived.Deep.DeepHandedRow
import Derived.Deep.DeepWitnessRowRef
import Derived.SevenTiedAt
import Derived.Shelf.Vars
set_option linter.unusedVariables false
set_option maxHeartbeats 8000000
set_option maxRecDepth 100000
namespace Go.Proofs.YtlckdgjfniglfaaGreatDoor.fnExactReplay
open Proofs.Tryz
open Go.ChangeShapes Go.WideShapes Go.ChangeAt Go.RowKit
open Proofs
theorem cells9:prog.cellsOf 9=1:=kr_
theorem openedS {H:Type} {enc:TypeId×Value->H} {W:World} {fuel:Nat} {a:Option Addr} {len cap:Nat} {x:DataW H×List MemPlace}
 (hf:DataW.trod enc prog W 0 (fun _=>true) true fuel 22 [.slice a len cap]=some x):
 ∃ ss:List ByteArray,ss.length=len/\len<=maxLen/\(∀ i,(ss.getD i ByteArray.empty).size<=maxLen)/\StrsAt W a ss:=by
 rcases open_strings underlying22 underlying9 cells9 hf with ⟨hcs,_⟩ | ⟨ad,l,c,sa,hcs,_,hl,hm,hz,_,hcell,hws⟩
 · simp at hcs
   obtain ⟨rfl,rfl,rfl⟩:=hcs;exact ⟨[],rfl,Nat.zero_le _,fun i=>sm_,.inl rfl⟩
 · simp at hcs
   obtain ⟨rfl,rfl,rfl⟩:=hcs;simp only [if_true] at hz;have hlen:(sa.take len).length=len:=by rw [List.length_take];omega
   have hget:∀ i,i<len->(sa.take len).getD i ByteArray.empty=sa.getD i ByteArray.empty:=fun i hi=>by
    simp [List.getD,hi]
   refine ⟨sa.take len,hlen,om_,getD_small (fun i hi=>?_),?_⟩
   · rw [hlen] at hi
     rw [hget i hi];have hi':i<sa.length:=om_;have e:sa.getD i ByteArray.empty=sa[i]:=by simp [hi']
     rw [e];exact hws _ (List.getElem_mem hi')
   · rcases Nat.eq_zero_or_pos len with h0 | h0
     · exact .inl (by rw [h0];rfl)
     · obtain ⟨b,off,spot⟩:=ad
       have hc:=hcell 0 om_;have hspot:spot=none:=by simpa [Addr.add] using World.cell?_spot hc
       subst hspot;have hadd:∀ i,(⟨b,off,none⟩:Addr).add i=⟨b,off+i,none⟩:=fun i=>by unfold Addr.add;split <;> simp_all
       refine .inr ⟨b,off,rfl,?_,fun i hi=>?_⟩
       · rw [hadd 0] at hc
         rcases Nat.lt_or_ge b W.heap.size with h | h
         · exact h
         · simp [World.cell?,Array.getElem?_eq_none h] at hc
       · rw [hlen] at hi
         rw [hget i hi,<- hadd i];exact hcell i om_
theorem max_of_shaped {w:World} (h:w.ShapedOpen prog):MaxAt w:=by
 obtain ⟨m,hm⟩:=Go.Proofs.cell_of_shapedOpen_int (g:=0) (zero:=#[.int .i64 0]) (t:=3) h (of_decide_eq_true kr_) kr_ rfl kr_ kr_ underlying3;refine ⟨?_,m,hm⟩;rcases Nat.lt_or_ge 0 w.heap.size with h1 | h1
 · exact h1
 · simp [World.cell?,Array.getElem?_eq_none h1] at hm
theorem own:ownKnob prog.godebug=none:=kr_
theorem laidOut:laidOutB prog=true:=kr_
theorem contract (H:Type) (enc:TypeId×Value->H) (W:World) (base:Nat) (args:Array Value) (ds gs:List (DataW H)) (before:List MemPlace)
 (hval:∀ (j:Nat) t v,Tryz.f3.params[j]?=some t->args[j]?=some v->Value.okWide prog W .any base t v)
 (hW:DataW.Whole enc prog Tryz.f3.params.toList Rows.fnExactReplaySpec.vars false W args.toList ds gs before) (hSO:W.ShapedOpen prog):
 Calls prog 3 args W fun e W'=>∃ v,e=.returned v/\Rows.fnExactReplaySpec.post enc prog Tryz.f3 false true false false W args v W':=by
 have hmx:MaxAt W:=max_of_shaped hSO;have hW':=hW;obtain ⟨p,q,hA0,hV,rfl,hfz,hnd⟩:=hW;have hA:DataW.TrodAll enc prog W 0 (fun _=>true) true Tryz.f3.params.toList args.toList ds p:=hA0;rw [Tryz.params3] at hA hval;obtain ⟨v0,vs0,d0,ds0,p0,q0,hargs,rfl,rfl,h0,r0⟩:=trodAll_cons hA;obtain ⟨v1,vs1,d1,ds1,p1,q1,hargs1,rfl,rfl,h1,r1⟩:=trodAll_cons r0;obtain ⟨rfl,rfl,rfl⟩:=trodAll_nil r1;rw [hargs1] at hargs;obtain rfl:args=#[v0,v1]:=Array.ext' hargs;obtain ⟨rfl,rfl⟩:=trodVars_none hV;have k0:=h0;have lt0:∀ x∈p0,x.block<W.heap.size:=by obtain ⟨m,hm⟩:=k0;exact DataW.trod_lt m _ _ _ hm
 obtain ⟨a,len,cap,rfl⟩:=okWide_slice underlying22 (hval 0 22 v0 rfl rfl);obtain ⟨fuel,hf⟩:=h0;obtain ⟨es,rfl,hl,hs,hat⟩:=openedS hf;have k1:=h1;have lt1:∀ x∈p1,x.block<W.heap.size:=by obtain ⟨m,hm⟩:=k1;exact DataW.trod_lt m _ _ _ hm
 obtain ⟨fuel1,hf1⟩:=h1;obtain ⟨wd,e1,_,_⟩:=DataW.trod_int underlying3 hf1;obtain rfl:v1=.int .i64 wd:=by
  obtain ⟨z,_,rfl,_⟩:=okWide_int underlying3 (hval 1 3 v1 rfl rfl);simpa [Value.cells] using e1
 clear hA0;have hM:maxLen<=9223372036854775807:=by unfold maxLen;omega
 refine (c3 a cap es wd W (Nat.le_trans hl hM) (fun i=>Nat.le_trans (hs i) hM) hat hmx).mono fun e W' ⟨he,bel⟩=>?_;subst he;exact ⟨_,rfl,_,_,_,[],_,[],hW',trodAll_mk1 (shut_bool underlying4 _),(trodAll_cons_mk (Below.trod laidOut kr_ (of_decide_eq_true kr_) k0 bel lt0) (trodAll_cons_mk (Below.trod laidOut kr_ (of_decide_eq_true kr_) k1 bel lt1) trodAll_mk0)),rfl,bel.frame _,fun h=>by cases h⟩
def cell1:DataW Unit->Value
 | .lit (.int k n)=>.int k n
 | .lit (.bool b)=>.bool b
 | .lit (.string l)=>.string ⟨l.toArray⟩
 | _=>.bool false
def cells1:DataW Unit->List Value
 | .agg es=>es.map cell1
 | d=>[cell1 d]
def cells2:DataW Unit->Array Value
 | .agg ds=>(ds.flatMap cells1).toArray
 | _=>#[]
def withTab (g:Nat) (t:Array Value) (w:World):World:={ w with heap:=w.heap.modify g fun
 | .cells _ ty frozen=>.cells t ty frozen
 | o=>o }
noncomputable def laidWorld (os:Os):World:=withTab 5 (cells2 Rows.laid_math_bits_deBruijn64tab) (withTab 4 (cells2 Rows.laid_math_bits_deBruijn32tab) (withTab 3 (cells2 Rows.laid_internal_strconv_uint64pow10) (withTab 1 (cells2 Rows.laid_unicode_utf8_first) (withTab 2 (cells2 Rows.laid_unicode_utf8_acceptRanges) (World.holding prog os ⟨#[],#[],[]⟩)))))
theorem laid_met (os:Os):laidMet prog Rows.fnExactReplayRow.laid ((laidWorld os).forCall (fun _ _=>0) ⟨#[],#[.slice none 0 0,.int .i64 0],[]⟩).memory:=
 laidMet_of_run' 8 kr_ kr_
theorem reads (os:Os) {H:Type} (enc:TypeId×Value->H):∃ ds gs places,DataW.whole enc prog ((laidWorld os).forCall (fun _ _=>0) ⟨#[],#[.slice none 0 0,.int .i64 0],[]⟩).memory Tryz.f3.params.toList Rows.fnExactReplaySpec.vars false (#[.slice none 0 0,.int .i64 0]:Array Value).toList 8=some (ds,gs,places):=by
 have h:(DataW.whole enc prog ((laidWorld os).forCall (fun _ _=>0) ⟨#[],#[.slice none 0 0,.int .i64 0],[]⟩).memory Tryz.f3.params.toList Rows.fnExactReplaySpec.vars false (#[.slice none 0 0,.int .i64 0]:Array Value).toList 8).isSome=true:=kr_;obtain ⟨⟨a,b,c⟩,e⟩:=Option.isSome_iff_exists.1 h;exact ⟨a,b,c,e⟩
theorem lifted (os:Os) (started:os.Started) (H:Type) (enc:TypeId×Value->H) (F:Stop.Interp):
 ReturnsInHanded {} Tryz.checked os 3 .any ((OpenSpec.ofChange Rows.fnExactReplaySpec).preRow enc prog Tryz.f3 Rows.fnExactReplayRow.domain false Rows.fnExactReplayRow.laid) (((OpenSpec.ofChange Rows.fnExactReplaySpec).at F).post enc prog Tryz.f3 false true false false):=by
 obtain ⟨ds,gs,places,hx⟩:=reads os enc;refine returnsInHanded_of_row (C:=Tryz.checked) (s:=OpenSpec.ofChange Rows.fnExactReplaySpec) own started kr_ func3
  (witness_row_atRef (enc:=enc) (C:=Tryz.checked) false (laidWorld os) #[.slice none 0 0,.int .i64 0] rfl kr_ kr_ kr_
   (OpenSpec.preRow_of_cond 8 hx kr_ (fun k hk=>by cases hk) kr_ (laid_met os))) ?_
 intro W base args ds gs before hval hW _ _ _ hL hSO _;exact contract H enc W base args ds gs before hval hW hSO
theorem said:Rows.FnExactReplaySaid:=
 OpenClaim.holds_of_cond 3 Tryz.f3 rfl rfl rfl rfl rfl rfl rfl ⟨rfl,rfl,rfl,rfl,rfl⟩ rfl rfl rfl rfl rfl kr_ func3 kr_
  (of_decide_eq_true kr_) (by unfold Func.isWrapper;first | (rw [if_pos (by decide +kernel)];kernel_rfl) | (rw [if_neg (by decide +kernel)];exact ⟨rfl,rfl⟩))
  (fun os started H enc _ F=>by rw [OpenClaim.pre_eq_preRow];exact lifted os started H enc F)
theorem plain (f:FuncId) (fn:Func) (hf:Tryz.pinned.checked.prog.funcNamed "loop.example/kiln/laws.FnExactReplay"=some f) (hfn:Tryz.pinned.checked.prog.funcs[f]?=some fn):
 true=Tryz.pinned.checked.prog.looks []/\∀ (j:Nat) t,fn.params[j]?=some t->Tryz.pinned.checked.prog.wantsStandIn t=false:=by
 obtain rfl:f=3:=Option.some.inj ((show prog.funcNamed "loop.example/kiln/laws.FnExactReplay"=some 3 by kernel_rfl).symm.trans hf) |>.symm;obtain rfl:fn=Tryz.f3:=(Option.some.inj (func3.symm.trans hfn)).symm;refine ⟨kr_,fun j t ht=>?_⟩;rw [Tryz.params3] at ht;have hm:=Array.mem_of_getElem? ht;simp at hm;rcases hm with rfl | rfl
 · exact (show prog.wantsStandIn 22=false by kernel_rfl)
 · exact (show prog.wantsStandIn 3=false by kernel_rfl)
theorem card:Rows.FnExactReplayCardSaid:=
 Claim7.holds_tied_plain_at .later [] _ _ _ _ said (fun _ h=>by cases h) kr_ (fun _ h=>by cases h) fnExactReplay_row_tie rfl ⟨rfl,rfl⟩ kr_ rfl plain kr_
end Go.Proofs.YtlckdgjfniglfaaGreatDoor.fnExactReplay
namespace Go.Proofs.YtlckdgjfniglfaaGreatDoor
theorem fnExactReplay_holds:Rows.FnExactReplayCardSaid:=fnExactReplay.card
#print axioms fnExactReplay_holds
end Go.Proofs.YtlckdgjfniglfaaGreatDoor
