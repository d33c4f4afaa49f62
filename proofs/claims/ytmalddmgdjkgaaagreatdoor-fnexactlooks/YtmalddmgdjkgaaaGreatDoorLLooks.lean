import Derived.Test.YtmalddmgdjkgaaaGreatDoorLE
import Derived.Test.YtmalddmgdjkgaaaGreatDoorCards
import Derived.Test.YtmalddmgdjkgaaaGreatDoorTie
namespace Go.Proofs.YtmalddmgdjkgaaaGreatDoor.fnExactLooks
open Go.ChangeShapes Go.WideShapes Go.ChangeAt Go.RowKit
set_option linter.unusedVariables false
theorem max_of_shaped {w:World} (h:w.ShapedOpen Tryz.prog):MaxAt w:=by
 obtain ⟨m,hm⟩:=Go.Proofs.cell_of_shapedOpen_int (g:=5) (zero:=#[.int .i64 0]) (t:=3) h (of_decide_eq_true (by kernel_rfl)) (by kernel_rfl) rfl (by kernel_rfl) (by kernel_rfl) Tryz.underlying3
 refine ⟨?_,m,hm⟩
 rcases Nat.lt_or_ge 5 w.heap.size with h1 | h1
 · exact h1
 simp [World.cell?,Array.getElem?_eq_none h1] at hm
theorem et:Tryz.prog.globalNamed "errors.errorType"=some 4:=by kernel_rfl
theorem rt:(Tryz.prog.cutTypes.find? (·.1== "internal/reflectlite.rtype")).map (·.2)=some 189:=by kernel_rfl
theorem oneRow:((List.range 283).filter fun t=>Tryz.prog.rowNamed t [101,114,114,111,114])=[99]:=by kernel_rfl
theorem tsize:Tryz.prog.types.size=283:=by kernel_rfl
theorem gerrTaken:Tryz.prog.globalNamed "loop.example/kiln/impl.errTaken"=some 0:=by kernel_rfl
theorem terrTaken:(Tryz.prog.globals[0]?).map (·.type)=some 99:=by kernel_rfl
theorem gerrLong:Tryz.prog.globalNamed "loop.example/kiln/impl.errLong"=some 1:=by kernel_rfl
theorem terrLong:(Tryz.prog.globals[1]?).map (·.type)=some 99:=by kernel_rfl
theorem gerrEnd:Tryz.prog.globalNamed "loop.example/kiln/impl.errEnd"=some 2:=by kernel_rfl
theorem terrEnd:(Tryz.prog.globals[2]?).map (·.type)=some 99:=by kernel_rfl
theorem gerrShape:Tryz.prog.globalNamed "loop.example/kiln/impl.errShape"=some 3:=by kernel_rfl
theorem terrShape:(Tryz.prog.globals[3]?).map (·.type)=some 99:=by kernel_rfl
theorem gerrMany:Tryz.prog.globalNamed "loop.example/kiln/impl.errMany"=some 6:=by kernel_rfl
theorem terrMany:(Tryz.prog.globals[6]?).map (·.type)=some 99:=by kernel_rfl
theorem gerrMake:Tryz.prog.globalNamed "loop.example/kiln/impl.errMake"=some 7:=by kernel_rfl
theorem terrMake:(Tryz.prog.globals[7]?).map (·.type)=some 99:=by kernel_rfl
theorem gerrOrder:Tryz.prog.globalNamed "loop.example/kiln/impl.errOrder"=some 8:=by kernel_rfl
theorem terrOrder:(Tryz.prog.globals[8]?).map (·.type)=some 99:=by kernel_rfl
theorem iface_of_trod {H:Type} {enc:TypeId×Value→H} {W:World} {fuel:Nat} {cs:List Value} {nm:String} {d:DataW H} {p:List MemPlace}
 (h:DataW.trod enc Tryz.prog W 0 (fun _=>true) false fuel 99 cs=some (.iface nm d,p)):∃ u v,cs=[.iface u v]:=by
 cases fuel with
 | zero=>simp [DataW.trod] at h
 | succ m=>
  rcases cs with _ | ⟨c,_ | ⟨c',r⟩⟩
  · simp [DataW.trod,Tryz.underlying99] at h
  · cases c <;> first | exact ⟨_,_,rfl⟩ | simp [DataW.trod,Tryz.underlying99] at h
  cases c <;> simp [DataW.trod,Tryz.underlying99] at h
theorem var_iface {W:World} {n:String} {g:Nat} {cs:Array Value} {fuel:Nat} {nm:String} {d:DataW Unit} {p:List MemPlace} (hg:Tryz.prog.globalNamed n=some g) (hv:W.var? Tryz.prog n=some cs)
 (h:DataW.trod (fun _=>()) Tryz.prog W 0 (fun _=>true) false fuel 99 cs.toList=some (.iface nm d,p)):∃ t v,W.cell? ⟨g,0,none⟩=some (.iface t v):=by
 obtain ⟨u,v,e⟩:=iface_of_trod h
 have:=World.var?_cell hg hv 0
 rw [Array.eq_one_of_toList e] at this
 exact ⟨u,v,by simpa using this⟩
theorem parts_of_laid {W:World} (h:laidMetH Tryz.prog Rows.fnExactLooksRow.laid W):laidMet Tryz.prog [("math/bits.deBruijn32tab",Rows.laid_math_bits_deBruijn32tab),("math/bits.deBruijn64tab",Rows.laid_math_bits_deBruijn64tab),("internal/strconv.uint64pow10",Rows.laid_internal_strconv_uint64pow10),("unicode/utf8.acceptRanges",Rows.laid_unicode_utf8_acceptRanges),("loop.example/kiln/impl.shapes",Rows.laid_loop_example_kiln_impl_shapes),("loop.example/kiln/impl.errLong",Rows.laid_loop_example_kiln_impl_errLong),("loop.example/kiln/impl.errEnd",Rows.laid_loop_example_kiln_impl_errEnd),("loop.example/kiln/impl.errShape",Rows.laid_loop_example_kiln_impl_errShape),("loop.example/kiln/impl.errMake",Rows.laid_loop_example_kiln_impl_errMake),("loop.example/kiln/impl.errMany",Rows.laid_loop_example_kiln_impl_errMany),("loop.example/kiln/impl.errOrder",Rows.laid_loop_example_kiln_impl_errOrder),("loop.example/kiln/impl.errTaken",Rows.laid_loop_example_kiln_impl_errTaken),("unicode/utf8.first",Rows.laid_unicode_utf8_first)] W∧handlesMet Tryz.prog [("errors.errorType",Rows.laid_errors_errorType)] W:=h
theorem shapes_of_laid {W:World} (h:laidMetH Tryz.prog Rows.fnExactLooksRow.laid W):ShapesAt W:=
 LT.shapes_of_reads (Go.Lib.laidMet.reads (parts_of_laid h).1 (by simp))
theorem ten_of_shapes {W:World} (h:ShapesAt W):10≤W.heap.size:=by
 have:=(h 1 (by omega) (by omega)).1
 rcases Nat.lt_or_ge 9 W.heap.size with h1 | h1
 · omega
 simp [World.cell?,Array.getElem?_eq_none h1] at this
theorem vars_of_laid {W:World} (h:laidMetH Tryz.prog Rows.fnExactLooksRow.laid W) (hSO:W.ShapedOpen Tryz.prog):G.VarsZ W:=by
 obtain ⟨hp,hh⟩:=parts_of_laid h
 obtain ⟨ps,⟨g1,t1,cs1,f1,p1,q1,hg1,ht1,hv1,hd1,⟨g2,t2,cs2,f2,p2,q2,hg2,ht2,hv2,hd2,⟨g3,t3,cs3,f3,p3,q3,hg3,ht3,hv3,hd3,⟨g4,t4,cs4,f4,p4,q4,hg4,ht4,hv4,hd4,⟨g5,t5,cs5,f5,p5,q5,hg5,ht5,hv5,hd5,⟨g6,t6,cs6,f6,p6,q6,hg6,ht6,hv6,hd6,⟨g7,t7,cs7,f7,p7,q7,hg7,ht7,hv7,hd7,⟨g8,t8,cs8,f8,p8,q8,hg8,ht8,hv8,hd8,⟨g9,t9,cs9,f9,p9,q9,hg9,ht9,hv9,hd9,⟨g10,t10,cs10,f10,p10,q10,hg10,ht10,hv10,hd10,⟨g11,t11,cs11,f11,p11,q11,hg11,ht11,hv11,hd11,⟨g12,t12,cs12,f12,p12,q12,hg12,ht12,hv12,hd12,⟨g13,t13,cs13,f13,p13,q13,hg13,ht13,hv13,hd13,_,_⟩,_⟩,_⟩,_⟩,_⟩,_⟩,_⟩,_⟩,_⟩,_⟩,_⟩,_⟩,_⟩,_,_⟩:=hp
 obtain rfl:=Option.some.inj (gerrLong.symm.trans hg6)
 obtain rfl:=Option.some.inj (terrLong.symm.trans ht6)
 obtain rfl:=Option.some.inj (gerrEnd.symm.trans hg7)
 obtain rfl:=Option.some.inj (terrEnd.symm.trans ht7)
 obtain rfl:=Option.some.inj (gerrShape.symm.trans hg8)
 obtain rfl:=Option.some.inj (terrShape.symm.trans ht8)
 obtain rfl:=Option.some.inj (gerrMake.symm.trans hg9)
 obtain rfl:=Option.some.inj (terrMake.symm.trans ht9)
 obtain rfl:=Option.some.inj (gerrMany.symm.trans hg10)
 obtain rfl:=Option.some.inj (terrMany.symm.trans ht10)
 obtain rfl:=Option.some.inj (gerrOrder.symm.trans hg11)
 obtain rfl:=Option.some.inj (terrOrder.symm.trans ht11)
 obtain rfl:=Option.some.inj (gerrTaken.symm.trans hg12)
 obtain rfl:=Option.some.inj (terrTaken.symm.trans ht12)
 refine ⟨⟨⟨var_iface hg10 hv10 hd10,var_iface hg9 hv9 hd9,var_iface hg11 hv11 hd11,?_⟩,var_iface hg6 hv6 hd6,var_iface hg7 hv7 hd7,var_iface hg8 hv8 hd8,max_of_shaped hSO⟩,var_iface hg12 hv12 hd12⟩
 obtain ⟨name,u,ty,e1,e2,e3,e4,e5⟩:=hh _ (List.mem_singleton.2 rfl)
 have en:name=[101,114,114,111,114]:=(Option.some.inj e1).symm
 subst en
 obtain rfl:=Option.some.inj (rt.symm.trans e2)
 have hm:ty∈(List.range 283).filter fun t=>Tryz.prog.rowNamed t [101,114,114,111,114]:=List.mem_filter.2 ⟨List.mem_range.2 (by rw [← tsize];exact e3),e4⟩
 rw [oneRow] at hm
 obtain rfl:=List.mem_singleton.1 hm
 have hh:typeHandle Tryz.prog 99=.pointer (some ⟨15,99,none⟩):=by kernel_rfl
 rw [hh] at e5
 simpa using World.var?_cell et e5 0
set_option maxHeartbeats 4000000 in
set_option maxRecDepth 100000 in
theorem contract (H:Type) (enc:TypeId×Value→H) (W:World) (base:Nat) (args:Array Value) (ds gs:List (DataW H)) (before:List MemPlace)
 (hval:∀ (j:Nat) t v,Tryz.f3.params[j]?=some t→args[j]?=some v→Value.okWide Tryz.prog W .any base t v)
 (hW:DataW.Whole enc Tryz.prog Tryz.f3.params.toList Rows.fnExactLooksSpec.vars false W args.toList ds gs before) (hL:laidMetH Tryz.prog Rows.fnExactLooksRow.laid W) (hSO:W.ShapedOpen Tryz.prog):
 Calls Tryz.prog 3 args W fun e W'=>∃ v,e=.returned v∧Rows.fnExactLooksSpec.post enc Tryz.prog Tryz.f3 false true false false W args v W':=by
 have hvz:G.VarsZ W:=vars_of_laid hL hSO
 have hsh:ShapesAt W:=shapes_of_laid hL
 have hmx:MaxAt W:=max_of_shaped hSO
 have hW':=hW
 obtain ⟨p,q,hA0,hV,rfl,hfz,hnd⟩:=hW
 have hA:DataW.TrodAll enc Tryz.prog W 0 (fun _=>true) true Tryz.f3.params.toList args.toList ds p:=hA0
 rw [Tryz.params3] at hA hval
 obtain ⟨v0,vs0,d0,ds0,p0,q0,hargs,rfl,rfl,h0,r0⟩:=trodAll_cons hA
 obtain ⟨v1,vs1,d1,ds1,p1,q1,hargs1,rfl,rfl,h1,r1⟩:=trodAll_cons r0
 obtain ⟨rfl,rfl,rfl⟩:=trodAll_nil r1
 rw [hargs1] at hargs
 obtain rfl:args=#[v0,v1]:=Array.ext' hargs
 have hV1:=hV
 obtain ⟨g1,g2,g3,g4,g5,g6,g7,g8,rfl⟩:∃ g1 g2 g3 g4 g5 g6 g7 g8,gs=[g1,g2,g3,g4,g5,g6,g7,g8]:=by
  have hV2:DataW.TrodVars enc Tryz.prog W (fun _=>true) ["loop.example/kiln/impl.errTaken", "loop.example/kiln/impl.errLong", "loop.example/kiln/impl.errEnd", "loop.example/kiln/impl.errShape", "loop.example/kiln/impl.errMany", "loop.example/kiln/impl.errMake", "loop.example/kiln/impl.errOrder", "loop.example/kiln/impl.shapes"] gs q:=hV
  rcases gs with _ | ⟨g1,gs⟩
  · exact hV2.elim
  obtain ⟨_,_,_,_,_,_,_,_,_,_,hV3,_⟩:=hV2
  rcases gs with _ | ⟨g2,gs⟩
  · exact hV3.elim
  obtain ⟨_,_,_,_,_,_,_,_,_,_,hV4,_⟩:=hV3
  rcases gs with _ | ⟨g3,gs⟩
  · exact hV4.elim
  obtain ⟨_,_,_,_,_,_,_,_,_,_,hV5,_⟩:=hV4
  rcases gs with _ | ⟨g4,gs⟩
  · exact hV5.elim
  obtain ⟨_,_,_,_,_,_,_,_,_,_,hV6,_⟩:=hV5
  rcases gs with _ | ⟨g5,gs⟩
  · exact hV6.elim
  obtain ⟨_,_,_,_,_,_,_,_,_,_,hV7,_⟩:=hV6
  rcases gs with _ | ⟨g6,gs⟩
  · exact hV7.elim
  obtain ⟨_,_,_,_,_,_,_,_,_,_,hV8,_⟩:=hV7
  rcases gs with _ | ⟨g7,gs⟩
  · exact hV8.elim
  obtain ⟨_,_,_,_,_,_,_,_,_,_,hV9,_⟩:=hV8
  rcases gs with _ | ⟨g8,gs⟩
  · exact hV9.elim
  obtain ⟨_,_,_,_,_,_,_,_,_,_,hV10,_⟩:=hV9
  rcases gs with _ | ⟨g9,gs⟩
  · exact ⟨_,_,_,_,_,_,_,_,rfl⟩
  exact hV10.elim
 have k0:=h0
 have lt0:∀ x∈p0,x.block<W.heap.size:=by obtain ⟨m,hm⟩:=k0;exact DataW.trod_lt m _ _ _ hm
 obtain ⟨cs1,rfl,hsz1⟩:=okWide_struct Tryz.underlying24 (hval 0 24 v0 rfl rfl)
 obtain ⟨fuel1,hf1⟩:=h0
 obtain ⟨yt,nt,_,hlent,hyt⟩:=trod_struct1 Tryz.underlying24 hf1
 rw [LO.cells24] at hsz1
 obtain ⟨ct,rfl⟩:∃ c,cs1=#[c]:=Array.size_eq_one_iff.1 hsz1
 simp only [LO.cells22] at hyt
 obtain ⟨a,cap,is,hcst,hlt,hst,hatt⟩:=LO.opened hyt
 simp [Value.cells] at hcst
 subst hcst
 have k1:=h1
 have lt1:∀ x∈p1,x.block<W.heap.size:=by obtain ⟨m,hm⟩:=k1;exact DataW.trod_lt m _ _ _ hm
 obtain ⟨nm,rfl⟩:=okWide_string Tryz.underlying9 (hval 1 9 v1 rfl rfl)
 clear hA0
 have hM:maxLen≤9223372036854775807:=by unfold maxLen;omega
 refine (c3 a cap is nm W (fun i=>⟨Nat.le_trans (hst i).1 hM,Nat.le_trans (hst i).2 hM⟩) (Nat.le_trans hlt hM) hatt hvz hsh hmx (ten_of_shapes hsh)).mono fun e W' ⟨he,bel⟩=>?_
 subst he
 exact ⟨_,rfl,_,_,_,[],_,_,hW',trodAll_mk1 (shut_bool Tryz.underlying4 _),(trodAll_cons_mk (Below.trod LO.laidOut (by kernel_rfl) (of_decide_eq_true (by kernel_rfl)) k0 bel lt0) (trodAll_cons_mk (Below.trod LO.laidOut (by kernel_rfl) (of_decide_eq_true (by kernel_rfl)) k1 bel lt1) trodAll_mk0)),Below.trodVars LO.laidOut bel (by kernel_rfl) hV1,bel.frame _,fun h=>by cases h⟩
noncomputable def laidWorld (os:Os):World:=(LO.withTab 14 (LO.cells2 Rows.laid_math_bits_deBruijn64tab) (LO.withTab 13 (LO.cells2 Rows.laid_math_bits_deBruijn32tab) (LO.withTab 12 (LO.cells2 Rows.laid_internal_strconv_uint64pow10) (LO.withTab 10 (LO.cells2 Rows.laid_unicode_utf8_first) (LO.withTab 9 (LO.cells2 Rows.laid_loop_example_kiln_impl_shapes) (World.doorLaid Tryz.prog 400 os))))))
set_option maxRecDepth 100000 in
theorem laid_met (os:Os):laidMetH Tryz.prog Rows.fnExactLooksRow.laid ((laidWorld os).forCall (fun _ _=>0) ⟨#[],#[.agg #[.slice none 0 0],.string ⟨#[]⟩],[]⟩).memory:=
 laidMetH_of_parts (laidMet_of_run' 8 (by kernel_rfl) (by kernel_rfl)) (by kernel_rfl)
set_option maxRecDepth 100000 in
theorem reads (os:Os) {H:Type} (enc:TypeId×Value→H):∃ ds gs places,DataW.whole enc Tryz.prog ((laidWorld os).forCall (fun _ _=>0) ⟨#[],#[.agg #[.slice none 0 0],.string ⟨#[]⟩],[]⟩).memory Tryz.f3.params.toList Rows.fnExactLooksSpec.vars false (#[.agg #[.slice none 0 0],.string ⟨#[]⟩]:Array Value).toList 8=some (ds,gs,places):=by
 have h:(DataW.whole enc Tryz.prog ((laidWorld os).forCall (fun _ _=>0) ⟨#[],#[.agg #[.slice none 0 0],.string ⟨#[]⟩],[]⟩).memory Tryz.f3.params.toList Rows.fnExactLooksSpec.vars false (#[.agg #[.slice none 0 0],.string ⟨#[]⟩]:Array Value).toList 8).isSome=true:=by kernel_rfl
 obtain ⟨⟨a,b,c⟩,e⟩:=Option.isSome_iff_exists.1 h
 exact ⟨a,b,c,e⟩
set_option maxRecDepth 100000 in
theorem lifted (os:Os) (started:os.Started) (H:Type) (enc:TypeId×Value→H) (F:Stop.Interp):
 ReturnsInHanded {} Tryz.checked os 3 .any ((OpenSpec.ofChange Rows.fnExactLooksSpec).preRow enc Tryz.prog Tryz.f3 Rows.fnExactLooksRow.domain false Rows.fnExactLooksRow.laid) (((OpenSpec.ofChange Rows.fnExactLooksSpec).at F).post enc Tryz.prog Tryz.f3 false true false false):=by
 obtain ⟨ds,gs,places,hx⟩:=reads os enc
 refine returnsInHanded_of_row (C:=Tryz.checked) (s:=OpenSpec.ofChange Rows.fnExactLooksSpec) LO.own started (by kernel_rfl) Tryz.func3
  (witness_row_atRef (enc:=enc) (C:=Tryz.checked) false (laidWorld os) #[.agg #[.slice none 0 0],.string ⟨#[]⟩] rfl (by kernel_rfl) (by kernel_rfl) (by kernel_rfl)
   (OpenSpec.preRow_of_cond 8 hx (by kernel_rfl) (fun k hk=>by cases hk) (by kernel_rfl) (laid_met os))) ?_
 intro W base args ds gs before hval hW _ _ _ hL hSO _
 exact contract H enc W base args ds gs before hval hW hL hSO
theorem said:Rows.FnExactLooksSaid:=
 OpenClaim.holds_of_cond 3 Tryz.f3 rfl rfl rfl rfl rfl rfl rfl ⟨rfl,rfl,rfl,rfl,rfl⟩ rfl rfl rfl rfl rfl (by kernel_rfl) Tryz.func3 (by kernel_rfl)
  (of_decide_eq_true (by kernel_rfl)) (by unfold Func.isWrapper;first | (rw [if_pos (by decide +kernel)];kernel_rfl) | (rw [if_neg (by decide +kernel)];exact ⟨rfl,rfl⟩))
  (fun os started H enc _ F=>by rw [OpenClaim.pre_eq_preRow];exact lifted os started H enc F)
theorem plain (f:FuncId) (fn:Func) (hf:Tryz.pinned.checked.prog.funcNamed "loop.example/kiln/laws.FnExactLooks"=some f) (hfn:Tryz.pinned.checked.prog.funcs[f]?=some fn):
 true=Tryz.pinned.checked.prog.looks []∧∀ (j:Nat) t,fn.params[j]?=some t→Tryz.pinned.checked.prog.wantsStandIn t=false:=by
 obtain rfl:f=3:=Option.some.inj ((show Tryz.prog.funcNamed "loop.example/kiln/laws.FnExactLooks"=some 3 by kernel_rfl).symm.trans hf) |>.symm
 obtain rfl:fn=Tryz.f3:=(Option.some.inj (Tryz.func3.symm.trans hfn)).symm
 refine ⟨by kernel_rfl,fun j t ht=>?_⟩
 rw [Tryz.params3] at ht
 have hm:=Array.mem_of_getElem? ht
 simp at hm
 rcases hm with rfl | rfl
 · exact (show Tryz.prog.wantsStandIn 24=false by kernel_rfl)
 exact (show Tryz.prog.wantsStandIn 9=false by kernel_rfl)
theorem card:Rows.FnExactLooksCardSaid:=
 Claim7.holds_tied_plain_at .later [] _ _ _ _ said (fun _ h=>by cases h) (by kernel_rfl) (fun _ h=>by cases h) fnExactLooks_row_tie rfl ⟨rfl,rfl⟩ (by kernel_rfl) rfl plain (by kernel_rfl)
end Go.Proofs.YtmalddmgdjkgaaaGreatDoor.fnExactLooks
namespace Go.Proofs.YtmalddmgdjkgaaaGreatDoor
theorem fnExactLooks_holds:Rows.FnExactLooksCardSaid:=fnExactLooks.card
#print axioms fnExactLooks_holds
end Go.Proofs.YtmalddmgdjkgaaaGreatDoor
