import Derived.Test.YtdgneicbmalnpaaGreatDooruJ
import Derived.Deep.DeepLaidRun
import Derived.Test.YtdgneicbmalnpaaGreatDoorCards
import Derived.Test.YtdgneicbmalnpaaGreatDoorTie
set_option linter.all false
set_option maxHeartbeats 0
set_option maxRecDepth 99999
namespace Go.Proofs.YtdgneicbmalnpaaGreatDoor.fnExactBossAsk
open Proofs.Tryz Go.ChangeShapes Go.WideShapes Go.ChangeAt Go.RowKit
variable{W w:World}{H:Type}{fuel g:Nat}{n nm:String}{p:List MemPlace}
theorem max_of_shaped(h:w.ShapedOpen prog):Vd w:=by
 obtain⟨m,hm⟩:=Go.Proofs.cell_of_shapedOpen_int (g:=5) (zero:=#[.int .i64 0]) (t:=3) h (of_decide_eq_true (by kernel_rfl)) (by kernel_rfl) rfl (by kernel_rfl) (by kernel_rfl) underlying3;refine⟨?_,m,hm⟩;rcases Nat.lt_or_ge 5 w.heap.size with h1|h1
 ·exact h1
 simp[World.cell?,Array.getElem?_eq_none h1]at hm
theorem et:prog.globalNamed "errors.errorType"=some 4:=by kernel_rfl
theorem rt:(prog.cutTypes.find? (·.1== "internal/reflectlite.rtype")).map (·.2)=some 422:=by kernel_rfl
theorem oneRow:((List.range 521).filter λt=>prog.rowNamed t [101,114,114,111,114])=[253]:=by kernel_rfl
theorem tsize:prog.types.size=521:=by kernel_rfl
theorem gerrTaken:prog.globalNamed "loop.example/kiln/impl.errTaken"=some 0:=by kernel_rfl
theorem terrTaken:(prog.globals[0]?).map (·.type)=some 253:=by kernel_rfl
theorem gerrLong:prog.globalNamed "loop.example/kiln/impl.errLong"=some 1:=by kernel_rfl
theorem terrLong:(prog.globals[1]?).map (·.type)=some 253:=by kernel_rfl
theorem gerrEnd:prog.globalNamed "loop.example/kiln/impl.errEnd"=some 2:=by kernel_rfl
theorem terrEnd:(prog.globals[2]?).map (·.type)=some 253:=by kernel_rfl
theorem gerrShape:prog.globalNamed "loop.example/kiln/impl.errShape"=some 3:=by kernel_rfl
theorem terrShape:(prog.globals[3]?).map (·.type)=some 253:=by kernel_rfl
theorem gerrMany:prog.globalNamed "loop.example/kiln/impl.errMany"=some 6:=by kernel_rfl
theorem terrMany:(prog.globals[6]?).map (·.type)=some 253:=by kernel_rfl
theorem gerrMake:prog.globalNamed "loop.example/kiln/impl.errMake"=some 7:=by kernel_rfl
theorem terrMake:(prog.globals[7]?).map (·.type)=some 253:=by kernel_rfl
theorem gerrOrder:prog.globalNamed "loop.example/kiln/impl.errOrder"=some 8:=by kernel_rfl
theorem terrOrder:(prog.globals[8]?).map (·.type)=some 253:=by kernel_rfl
theorem iface_of_trod{enc:TypeId×Value->H}{cs:List Value}{d:DataW H}
 (h:DataW.trod enc prog W 0 (λ_=>true) false fuel 253 cs=some (.iface nm d,p)):∃u v,cs=[.iface u v]:=by
 cases fuel with
 | zero=>simp[DataW.trod]at h
 | succ m=>
  rcases cs with _|⟨c,_|⟨c',r⟩⟩
  ·simp[DataW.trod,underlying253]at h
  ·cases c<;>first|exact⟨_,_,rfl⟩|simp[DataW.trod,underlying253]at h
  cases c<;>simp[DataW.trod,underlying253]at h
theorem var_iface{cs:Array Value}{d:DataW Unit}(hg:prog.globalNamed n=some g)(hv:W.var? prog n=some cs)
 (h:DataW.trod (λ_=>()) prog W 0 (λ_=>true) false fuel 253 cs.toList=some (.iface nm d,p)):∃t v,W.cell? ⟨g,0,none⟩=some (.iface t v):=by
 obtain⟨u,v,e⟩:=iface_of_trod h;have:=World.var?_cell hg hv 0;rw[Array.eq_one_of_toList e]at this;exact⟨u,v,by simpa using this⟩
theorem parts_of_laid (h:laidMetH prog Rows.fnExactBossAskRow.laid W):laidMet prog [("math/bits.deBruijn32tab",Rows.laid_math_bits_deBruijn32tab),("math/bits.deBruijn64tab",Rows.laid_math_bits_deBruijn64tab),("internal/strconv.uint64pow10",Rows.laid_internal_strconv_uint64pow10),("unicode/utf8.acceptRanges",Rows.laid_unicode_utf8_acceptRanges),("loop.example/kiln/impl.errLong",Rows.laid_loop_example_kiln_impl_errLong),("loop.example/kiln/impl.errEnd",Rows.laid_loop_example_kiln_impl_errEnd),("loop.example/kiln/impl.errShape",Rows.laid_loop_example_kiln_impl_errShape),("loop.example/kiln/impl.errMake",Rows.laid_loop_example_kiln_impl_errMake),("loop.example/kiln/impl.errMany",Rows.laid_loop_example_kiln_impl_errMany),("loop.example/kiln/impl.errOrder",Rows.laid_loop_example_kiln_impl_errOrder),("loop.example/kiln/impl.errTaken",Rows.laid_loop_example_kiln_impl_errTaken),("unicode/utf8.first",Rows.laid_unicode_utf8_first)] W/\handlesMet prog [("errors.errorType",Rows.laid_errors_errorType)] W:=h
theorem vars_of_laid(h:laidMetH prog Rows.fnExactBossAskRow.laid W)(hSO:W.ShapedOpen prog):G.Vk W:=by
 obtain⟨hp,hh⟩:=parts_of_laid h;obtain⟨ps,⟨g1,t1,cs1,f1,p1,q1,hg1,ht1,hv1,hd1,⟨g2,t2,cs2,f2,p2,q2,hg2,ht2,hv2,hd2,⟨g3,t3,cs3,f3,p3,q3,hg3,ht3,hv3,hd3,⟨g4,t4,cs4,f4,p4,q4,hg4,ht4,hv4,hd4,⟨g5,t5,cs5,f5,p5,q5,hg5,ht5,hv5,hd5,⟨g6,t6,cs6,f6,p6,q6,hg6,ht6,hv6,hd6,⟨g7,t7,cs7,f7,p7,q7,hg7,ht7,hv7,hd7,⟨g8,t8,cs8,f8,p8,q8,hg8,ht8,hv8,hd8,⟨g9,t9,cs9,f9,p9,q9,hg9,ht9,hv9,hd9,⟨g10,t10,a8Y,f10,p10,q10,a7F,a8d,a8e,hd10,⟨g11,t11,a8Z,f11,p11,q11,a7G,a8f,a8g,hd11,⟨g12,t12,a9a,f12,p12,q12,a9b,a9c,a9d,a9e,_,_⟩,_⟩,_⟩,_⟩,_⟩,_⟩,_⟩,_⟩,_⟩,_⟩,_⟩,_⟩,_,_⟩:=hp;obtain rfl:=Option.some.inj (gerrLong.symm.trans hg5);obtain rfl:=Option.some.inj (terrLong.symm.trans ht5);obtain rfl:=Option.some.inj (gerrEnd.symm.trans hg6);obtain rfl:=Option.some.inj (terrEnd.symm.trans ht6);obtain rfl:=Option.some.inj (gerrShape.symm.trans hg7);obtain rfl:=Option.some.inj (terrShape.symm.trans ht7);obtain rfl:=Option.some.inj (gerrMake.symm.trans hg8);obtain rfl:=Option.some.inj (terrMake.symm.trans ht8);obtain rfl:=Option.some.inj (gerrMany.symm.trans hg9);obtain rfl:=Option.some.inj (terrMany.symm.trans ht9);obtain rfl:=Option.some.inj (gerrOrder.symm.trans a7F);obtain rfl:=Option.some.inj (terrOrder.symm.trans a8d);obtain rfl:=Option.some.inj (gerrTaken.symm.trans a7G);obtain rfl:=Option.some.inj (terrTaken.symm.trans a8f);refine⟨⟨⟨var_iface hg9 hv9 hd9,var_iface hg8 hv8 hd8,var_iface a7F a8e hd10,?_⟩,var_iface hg5 hv5 hd5,var_iface hg6 hv6 hd6,var_iface hg7 hv7 hd7,max_of_shaped hSO⟩,var_iface a7G a8g hd11⟩;obtain⟨name,u,ty,e1,e2,e3,e4,e5⟩:=hh _ (List.mem_singleton.2 rfl);have en:name=[101,114,114,111,114]:=(Option.some.inj e1).symm;subst en;obtain rfl:=Option.some.inj (rt.symm.trans e2);have hm:ty∈(List.range 521).filter λt=>prog.rowNamed t [101,114,114,111,114]:=List.mem_filter.2 ⟨List.mem_range.2 (by rw[<- tsize];exact e3),e4⟩;rw[oneRow]at hm;obtain rfl:=List.mem_singleton.1 hm;have hh:typeHandle prog 253=.pointer (some ⟨14,253,none⟩):=by kernel_rfl
 rw[hh]at e5;simpa using World.var?_cell et e5 0
abbrev zb:Value:=.agg #[.int .i64 0,.bool false,.int .i64 0,.int .i64 0,.int .i64 0,.slice none 0 0,.slice none 0 0,.slice none 0 0,.int .i64 0,.slice none 0 0,.slice none 0 0,.slice none 0 0,.slice none 0 0,.slice none 0 0,.slice none 0 0]
noncomputable def laidWorld(os:Os):World:=Kv 13 (cells2 Rows.laid_math_bits_deBruijn64tab) (Kv 12 (cells2 Rows.laid_math_bits_deBruijn32tab) (Kv 11 (cells2 Rows.laid_internal_strconv_uint64pow10) (Kv 10 (cells2 Rows.laid_unicode_utf8_acceptRanges) (Kv 9 (cells2 Rows.laid_unicode_utf8_first) (World.doorLaid prog 400 os)))))
theorem laid_met(os:Os):laidMetH prog Rows.fnExactBossAskRow.laid ((laidWorld os).forCall (λ_ _=>0) ⟨#[],#[zb,.string ⟨#[]⟩],[]⟩).memory:=
 laidMetH_of_parts (laidMet_of_run3 8 (by as_aux_lemma=>kernel_rfl) (by as_aux_lemma=>kernel_rfl) (by as_aux_lemma=>kernel_rfl)) (by as_aux_lemma=>kernel_rfl)
theorem reads(os:Os)(enc:TypeId×Value->H):∃ds gs places,DataW.whole enc prog ((laidWorld os).forCall (λ_ _=>0) ⟨#[],#[zb,.string ⟨#[]⟩],[]⟩).memory Tryz.f3.params.toList Rows.fnExactBossAskSpec.vars false (#[zb,.string ⟨#[]⟩]:Array Value).toList 8=some (ds,gs,places):=by
 have h:(DataW.whole enc prog ((laidWorld os).forCall (λ_ _=>0) ⟨#[],#[zb,.string ⟨#[]⟩],[]⟩).memory Tryz.f3.params.toList Rows.fnExactBossAskSpec.vars false (#[zb,.string ⟨#[]⟩]:Array Value).toList 8).isSome=true:=by kernel_rfl
 obtain⟨⟨a,b,c⟩,e⟩:=Option.isSome_iff_exists.1 h;exact⟨a,b,c,e⟩
