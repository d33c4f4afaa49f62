import Derived.Test.YtdjaajjndfbpmaaGreatDoorZ51
import Derived.Test.YtdjaajjndfbpmaaGreatDoorCards
import Derived.Test.YtdjaajjndfbpmaaGreatDoorTie
set_option linter.unusedVariables false
set_option maxHeartbeats 8000000
set_option maxRecDepth 100000
namespace Go.Proofs.YtdjaajjndfbpmaaGreatDoor.fnElse
open Proofs.Tryz
open Go.ChangeShapes Go.WideShapes Go.ChangeAt Go.RowKit
variable {W w:World} {H:Type} {fuel g:Nat} {n nm:String} {p:List MemPlace}
def IsRow (w:World) (a:Option Addr) (len cap:Nat) (zs:List Int):Prop:=(a=none/\len=0/\cap=0/\zs=[])\/∃ x,a=some x/\len<=cap/\cap<=maxLen/\zs.length=cap/\(∀ i,i<zs.length->w.cell? (x.add i)=some (.int .u8 (zs.getD i 0)))/\∀ n∈zs,(Lit.int .u8 n).wf=true
theorem bytes_of_row {a:Option Addr} {len cap:Nat} {zs:List Int} (h:IsRow w a len cap zs):BytesAt w a len/\len<=cap:=by
 rcases h with ⟨rfl,rfl,rfl,rfl⟩ | ⟨x,rfl,hl,hm,hz,hcell,hwz⟩
 · exact ⟨.inl rfl,Nat.le_refl _⟩
 refine ⟨?_,hl⟩;rcases Nat.eq_zero_or_pos len with h0 | h0
 · exact .inl h0
 obtain ⟨b,off,spot⟩:=x;have hc:=hcell 0 O0;have hspot:spot=none:=by simpa [Addr.add] using World.cell?_spot hc
 subst hspot;have hadd:∀ i,(⟨b,off,none⟩:Addr).add i=⟨b,off+i,none⟩:=fun i=>by unfold Addr.add;split <;> simp_all
 refine .inr ⟨b,off,rfl,fun i hi=>⟨zs.getD i 0,?_,by rw [<- hadd i];exact hcell i O0⟩⟩;have hi':i<zs.length:=O0;have e:zs.getD i 0=zs[i]:=by simp [hi']
 rw [e];have:=hwz _ (List.getElem_mem hi');simpa [Lit.wf,IntKind.min,IntKind.max,IntKind.signed,IntKind.bits] using this
theorem max_of_shaped (h:w.ShapedOpen prog):Z9 w:=by
 obtain ⟨m,hm⟩:=Go.Proofs.cell_of_shapedOpen_int (g:=1) (zero:=#[.int .i64 0]) (t:=3) h (of_decide_eq_true U2) U2 rfl U2 U2 underlying3;refine ⟨?_,m,hm⟩;rcases Nat.lt_or_ge 1 w.heap.size with h1 | h1
 · exact h1
 simp [World.cell?,Array.getElem?_eq_none h1] at hm
theorem et:prog.globalNamed "errors.errorType"=some 5:=U2
theorem rt:(prog.cutTypes.find? (·.1== "internal/reflectlite.rtype")).map (·.2)=some 236:=U2
theorem oneRow:((List.range 327).filter fun t=>prog.rowNamed t [101,114,114,111,114])=[113]:=U2
theorem tsize:prog.types.size=327:=U2
theorem gerrTaken:prog.globalNamed "loop.example/kiln/impl.errTaken"=some 0:=U2
theorem terrTaken:(prog.globals[0]?).map (·.type)=some 113:=U2
theorem gerrLong:prog.globalNamed "loop.example/kiln/impl.errLong"=some 2:=U2
theorem terrLong:(prog.globals[2]?).map (·.type)=some 113:=U2
theorem gerrEnd:prog.globalNamed "loop.example/kiln/impl.errEnd"=some 3:=U2
theorem terrEnd:(prog.globals[3]?).map (·.type)=some 113:=U2
theorem gerrShape:prog.globalNamed "loop.example/kiln/impl.errShape"=some 4:=U2
theorem terrShape:(prog.globals[4]?).map (·.type)=some 113:=U2
theorem gerrMany:prog.globalNamed "loop.example/kiln/impl.errMany"=some 6:=U2
theorem terrMany:(prog.globals[6]?).map (·.type)=some 113:=U2
theorem gerrMake:prog.globalNamed "loop.example/kiln/impl.errMake"=some 7:=U2
theorem terrMake:(prog.globals[7]?).map (·.type)=some 113:=U2
theorem gerrOrder:prog.globalNamed "loop.example/kiln/impl.errOrder"=some 8:=U2
theorem terrOrder:(prog.globals[8]?).map (·.type)=some 113:=U2
theorem iface_of_trod {enc:TypeId×Value->H} {cs:List Value} {d:DataW H}
 (h:DataW.trod enc prog W 0 (fun _=>true) false fuel 113 cs=some (.iface nm d,p)):∃ u v,cs=[.iface u v]:=by
 cases fuel with
 | zero=>simp [DataW.trod] at h
 | succ m=>
  rcases cs with _ | ⟨c,_ | ⟨c',r⟩⟩
  · simp [DataW.trod,underlying113] at h
  · cases c <;> first | exact ⟨_,_,rfl⟩ | simp [DataW.trod,underlying113] at h
  cases c <;> simp [DataW.trod,underlying113] at h
theorem var_iface {cs:Array Value} {d:DataW Unit} (hg:prog.globalNamed n=some g) (hv:W.var? prog n=some cs)
 (h:DataW.trod (fun _=>()) prog W 0 (fun _=>true) false fuel 113 cs.toList=some (.iface nm d,p)):∃ t v,W.cell? ⟨g,0,none⟩=some (.iface t v):=by
 obtain ⟨u,v,e⟩:=iface_of_trod h;have:=World.var?_cell hg hv 0;rw [Array.eq_one_of_toList e] at this;exact ⟨u,v,by simpa using this⟩
theorem parts_of_laid (h:laidMetH prog Rows.fnElseRow.laid W):laidMet prog [("math/bits.deBruijn32tab",Rows.laid_math_bits_deBruijn32tab),("math/bits.deBruijn64tab",Rows.laid_math_bits_deBruijn64tab),("internal/strconv.uint64pow10",Rows.laid_internal_strconv_uint64pow10),("unicode/utf8.acceptRanges",Rows.laid_unicode_utf8_acceptRanges),("loop.example/kiln/impl.shapes",Rows.laid_loop_example_kiln_impl_shapes),("loop.example/kiln/impl.errLong",Rows.laid_loop_example_kiln_impl_errLong),("loop.example/kiln/impl.errEnd",Rows.laid_loop_example_kiln_impl_errEnd),("loop.example/kiln/impl.errShape",Rows.laid_loop_example_kiln_impl_errShape),("loop.example/kiln/impl.errMake",Rows.laid_loop_example_kiln_impl_errMake),("loop.example/kiln/impl.errMany",Rows.laid_loop_example_kiln_impl_errMany),("loop.example/kiln/impl.errOrder",Rows.laid_loop_example_kiln_impl_errOrder),("loop.example/kiln/impl.errTaken",Rows.laid_loop_example_kiln_impl_errTaken),("unicode/utf8.first",Rows.laid_unicode_utf8_first)] W/\handlesMet prog [("errors.errorType",Rows.laid_errors_errorType)] W:=h
theorem shapes_of_laid (h:laidMetH prog Rows.fnElseRow.laid W):A7 W:=
 LT.qp (Go.Lib.laidMet.reads (parts_of_laid h).1 X0)
theorem vars_of_laid (h:laidMetH prog Rows.fnElseRow.laid W) (RZ:W.ShapedOpen prog):G.Zj W:=by
 obtain ⟨hp,hh⟩:=parts_of_laid h;obtain ⟨ps,⟨g1,t1,cs1,f1,p1,q1,hg1,ht1,hv1,hd1,⟨g2,t2,cs2,f2,p2,q2,hg2,ht2,hv2,hd2,⟨g3,t3,cs3,f3,p3,q3,hg3,ht3,hv3,hd3,⟨g4,t4,cs4,f4,p4,q4,hg4,ht4,hv4,hd4,⟨g5,t5,cs5,f5,p5,q5,hg5,ht5,hv5,hd5,⟨g6,t6,cs6,f6,p6,q6,hg6,ht6,hv6,hd6,⟨g7,t7,cs7,f7,p7,q7,hg7,ht7,hv7,hd7,⟨g8,t8,cs8,f8,p8,q8,hg8,ht8,FW,hd8,⟨g9,t9,cs9,f9,p9,q9,hg9,ht9,aW,hd9,⟨g10,t10,a3K,f10,p10,q10,a0m,a2a,nY,a2b,⟨g11,t11,a3L,f11,p11,q11,a0n,a2c,a2d,a2e,⟨g12,t12,a3M,f12,p12,q12,a0o,a2f,a2g,a2h,⟨g13,t13,a3N,f13,p13,q13,a3O,a3P,a3Q,a3R,_,_⟩,_⟩,_⟩,_⟩,_⟩,_⟩,_⟩,_⟩,_⟩,_⟩,_⟩,_⟩,_⟩,_,_⟩:=hp;obtain rfl:=Option.some.inj (gerrLong.symm.trans hg6);obtain rfl:=Option.some.inj (terrLong.symm.trans ht6);obtain rfl:=Option.some.inj (gerrEnd.symm.trans hg7);obtain rfl:=Option.some.inj (terrEnd.symm.trans ht7);obtain rfl:=Option.some.inj (gerrShape.symm.trans hg8);obtain rfl:=Option.some.inj (terrShape.symm.trans ht8);obtain rfl:=Option.some.inj (gerrMake.symm.trans hg9);obtain rfl:=Option.some.inj (terrMake.symm.trans ht9);obtain rfl:=Option.some.inj (gerrMany.symm.trans a0m);obtain rfl:=Option.some.inj (terrMany.symm.trans a2a);obtain rfl:=Option.some.inj (gerrOrder.symm.trans a0n);obtain rfl:=Option.some.inj (terrOrder.symm.trans a2c);obtain rfl:=Option.some.inj (gerrTaken.symm.trans a0o);obtain rfl:=Option.some.inj (terrTaken.symm.trans a2f);refine ⟨⟨⟨var_iface a0m nY a2b,var_iface hg9 aW hd9,var_iface a0n a2d a2e,?_⟩,var_iface hg6 hv6 hd6,var_iface hg7 hv7 hd7,var_iface hg8 FW hd8,max_of_shaped RZ⟩,var_iface a0o a2g a2h⟩;obtain ⟨name,u,ty,e1,e2,e3,e4,e5⟩:=hh _ (List.mem_singleton.2 rfl);have en:=(Option.some.inj e1).symm;subst en;obtain rfl:=Option.some.inj (rt.symm.trans e2);have hm:ty∈(List.range 327).filter fun t=>prog.rowNamed t [101,114,114,111,114]:=List.mem_filter.2 ⟨List.mem_range.2 (by rw [<- tsize];exact e3),e4⟩;rw [oneRow] at hm;obtain rfl:=List.mem_singleton.1 hm;have hh:typeHandle prog 113=.pointer (some ⟨15,113,none⟩):=U2;rw [hh] at e5;simpa using World.var?_cell et e5 0
noncomputable def laidWorld (os:Os):World:=(LO.qm 14 (LO.Hr Rows.laid_math_bits_deBruijn64tab) (LO.qm 13 (LO.Hr Rows.laid_math_bits_deBruijn32tab) (LO.qm 12 (LO.Hr Rows.laid_internal_strconv_uint64pow10) (LO.qm 10 (LO.Hr Rows.laid_unicode_utf8_first) (LO.qm 9 (LO.Hr Rows.laid_loop_example_kiln_impl_shapes) (World.doorLaid prog 400 os))))))
theorem laid_met (os:Os):laidMetH prog Rows.fnElseRow.laid ((laidWorld os).forCall (fun _ _=>0) ⟨#[],#[.slice none 0 0,.slice none 0 0],[]⟩).memory:=
 laidMetH_of_parts (laidMet_of_run' 8 U2 U2) U2
theorem reads (os:Os) (enc:TypeId×Value->H):∃ ds gs places,DataW.whole enc prog ((laidWorld os).forCall (fun _ _=>0) ⟨#[],#[.slice none 0 0,.slice none 0 0],[]⟩).memory Tryz.f3.params.toList Rows.fnElseSpec.vars false (#[.slice none 0 0,.slice none 0 0]:Array Value).toList 8=some (ds,gs,places):=by
 have h:(DataW.whole enc prog ((laidWorld os).forCall (fun _ _=>0) ⟨#[],#[.slice none 0 0,.slice none 0 0],[]⟩).memory Tryz.f3.params.toList Rows.fnElseSpec.vars false (#[.slice none 0 0,.slice none 0 0]:Array Value).toList 8).isSome=true:=U2;obtain ⟨⟨a,b,c⟩,e⟩:=Option.isSome_iff_exists.1 h;exact ⟨a,b,c,e⟩
end Go.Proofs.YtdjaajjndfbpmaaGreatDoor.fnElse
