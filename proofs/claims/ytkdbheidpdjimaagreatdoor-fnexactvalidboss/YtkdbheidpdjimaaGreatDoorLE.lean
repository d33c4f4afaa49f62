import Derived.Test.YtkdbheidpdjimaaGreatDoorwH
import Derived.Test.YtkdbheidpdjimaaGreatDoorCards
import Derived.Test.YtkdbheidpdjimaaGreatDoorTie
set_option linter.unusedVariables false
set_option maxHeartbeats 8000000
set_option maxRecDepth 100000
namespace Go.Proofs.YtkdbheidpdjimaaGreatDoor.fnExactValidBoss
open Proofs.Tryz Go.ChangeShapes Go.WideShapes Go.ChangeAt Go.RowKit
variable {W w:World} {H:Type} {fuel g:Nat} {n nm:String} {p:List MemPlace}
theorem max_of_shaped (h:w.ShapedOpen prog):Tc w:=by
 obtain ⟨m,hm⟩:=Go.Proofs.cell_of_shapedOpen_int (g:=5) (zero:=#[.int .i64 0]) (t:=3) h (of_decide_eq_true (by kernel_rfl)) (by kernel_rfl) rfl (by kernel_rfl) (by kernel_rfl) underlying3;refine ⟨?_,m,hm⟩;rcases Nat.lt_or_ge 5 w.heap.size with h1 | h1
 · exact h1
 simp [World.cell?,Array.getElem?_eq_none h1] at hm
theorem et:prog.globalNamed "errors.errorType"=some 4:=by kernel_rfl
theorem rt:(prog.cutTypes.find? (·.1== "internal/reflectlite.rtype")).map (·.2)=some 345:=by kernel_rfl
theorem oneRow:((List.range 449).filter fun t=>prog.rowNamed t [101,114,114,111,114])=[143]:=by kernel_rfl
theorem tsize:prog.types.size=449:=by kernel_rfl
theorem iface_of_trod {enc:TypeId×Value->H} {cs:List Value} {d:DataW H}
 (h:DataW.trod enc prog W 0 (fun _=>true) false fuel 143 cs=some (.iface nm d,p)):∃ u v,cs=[.iface u v]:=by
 cases fuel with
 | zero=>simp [DataW.trod] at h
 | succ m=>
  rcases cs with _ | ⟨c,_ | ⟨c',r⟩⟩
  · simp [DataW.trod,underlying143] at h
  · cases c <;> first | exact ⟨_,_,rfl⟩ | simp [DataW.trod,underlying143] at h
  cases c <;> simp [DataW.trod,underlying143] at h
theorem var_iface {cs:Array Value} {d:DataW Unit} (hg:prog.globalNamed n=some g) (hv:W.var? prog n=some cs)
 (h:DataW.trod (fun _=>()) prog W 0 (fun _=>true) false fuel 143 cs.toList=some (.iface nm d,p)):∃ t v,W.cell? ⟨g,0,none⟩=some (.iface t v):=by
 obtain ⟨u,v,e⟩:=iface_of_trod h;have:=World.var?_cell hg hv 0;rw [Array.eq_one_of_toList e] at this;exact ⟨u,v,by simpa using this⟩
theorem parts_of_laid (h:laidMetH prog Rows.fnExactValidBossRow.laid W):laidMet prog [("math/bits.deBruijn32tab",Rows.laid_math_bits_deBruijn32tab),("math/bits.deBruijn64tab",Rows.laid_math_bits_deBruijn64tab),("internal/strconv.uint64pow10",Rows.laid_internal_strconv_uint64pow10),("unicode/utf8.acceptRanges",Rows.laid_unicode_utf8_acceptRanges),("loop.example/kiln/impl.errLong",Rows.laid_loop_example_kiln_impl_errLong),("loop.example/kiln/impl.errEnd",Rows.laid_loop_example_kiln_impl_errEnd),("loop.example/kiln/impl.errShape",Rows.laid_loop_example_kiln_impl_errShape),("loop.example/kiln/impl.errMake",Rows.laid_loop_example_kiln_impl_errMake),("loop.example/kiln/impl.errMany",Rows.laid_loop_example_kiln_impl_errMany),("loop.example/kiln/impl.errOrder",Rows.laid_loop_example_kiln_impl_errOrder),("loop.example/kiln/impl.errTaken",Rows.laid_loop_example_kiln_impl_errTaken),("unicode/utf8.first",Rows.laid_unicode_utf8_first)] W/\handlesMet prog [("errors.errorType",Rows.laid_errors_errorType)] W:=h
theorem vars_of_laid (h:laidMetH prog Rows.fnExactValidBossRow.laid W) (hSO:W.ShapedOpen prog):G.Yr W:=by
 obtain ⟨hp,hh⟩:=parts_of_laid h;obtain ⟨ps,⟨_,_,_,_,_,_,_,_,_,_,⟨_,_,_,_,_,_,_,_,_,_,⟨_,_,_,_,_,_,_,_,_,_,⟨_,_,_,_,_,_,_,_,_,_,⟨g5,t5,_,_,_,_,hg5,ht5,hv5,hd5,⟨g6,t6,_,_,_,_,hg6,ht6,hv6,hd6,⟨g7,t7,_,_,_,_,hg7,ht7,hv7,hd7,⟨g8,t8,_,_,_,_,hg8,ht8,hv8,hd8,⟨g9,t9,_,_,_,_,hg9,ht9,hv9,hd9,⟨g10,t10,_,_,_,_,a5p,a5V,a5W,hd10,⟨g11,t11,_,_,_,_,a5q,a5X,a5Y,hd11,⟨_,_,_,_,_,_,_,_,_,_,_,_⟩,_⟩,_⟩,_⟩,_⟩,_⟩,_⟩,_⟩,_⟩,_⟩,_⟩,_⟩,_,_⟩:=hp;obtain rfl:g5=1:=Option.some.inj (hg5.symm.trans (by kernel_rfl));obtain rfl:t5=143:=Option.some.inj (ht5.symm.trans (by kernel_rfl));obtain rfl:g6=2:=Option.some.inj (hg6.symm.trans (by kernel_rfl));obtain rfl:t6=143:=Option.some.inj (ht6.symm.trans (by kernel_rfl));obtain rfl:g7=3:=Option.some.inj (hg7.symm.trans (by kernel_rfl));obtain rfl:t7=143:=Option.some.inj (ht7.symm.trans (by kernel_rfl));obtain rfl:g8=7:=Option.some.inj (hg8.symm.trans (by kernel_rfl));obtain rfl:t8=143:=Option.some.inj (ht8.symm.trans (by kernel_rfl));obtain rfl:g9=6:=Option.some.inj (hg9.symm.trans (by kernel_rfl));obtain rfl:t9=143:=Option.some.inj (ht9.symm.trans (by kernel_rfl));obtain rfl:g10=8:=Option.some.inj (a5p.symm.trans (by kernel_rfl));obtain rfl:t10=143:=Option.some.inj (a5V.symm.trans (by kernel_rfl));obtain rfl:g11=0:=Option.some.inj (a5q.symm.trans (by kernel_rfl));obtain rfl:t11=143:=Option.some.inj (a5X.symm.trans (by kernel_rfl));refine ⟨⟨⟨var_iface hg9 hv9 hd9,var_iface hg8 hv8 hd8,var_iface a5p a5W hd10,?_⟩,var_iface hg5 hv5 hd5,var_iface hg6 hv6 hd6,var_iface hg7 hv7 hd7,max_of_shaped hSO⟩,var_iface a5q a5Y hd11⟩;obtain ⟨name,u,ty,e1,e2,e3,e4,e5⟩:=hh _ (List.mem_singleton.2 rfl);have en:name=[101,114,114,111,114]:=(Option.some.inj e1).symm;subst en;obtain rfl:=Option.some.inj (rt.symm.trans e2);have hm:ty∈(List.range 449).filter fun t=>prog.rowNamed t [101,114,114,111,114]:=List.mem_filter.2 ⟨List.mem_range.2 (by rw [<- tsize];exact e3),e4⟩;rw [oneRow] at hm;obtain rfl:=List.mem_singleton.1 hm;have hh:typeHandle prog 143=.pointer (some ⟨14,143,none⟩):=by kernel_rfl
 rw [hh] at e5;simpa using World.var?_cell et e5 0
abbrev zb:Value:=.agg #[.int .i64 0,.bool false,.int .i64 0,.int .i64 0,.int .i64 0,.slice none 0 0,.slice none 0 0,.slice none 0 0,.int .i64 0,.slice none 0 0,.slice none 0 0,.slice none 0 0,.slice none 0 0,.slice none 0 0,.slice none 0 0]
noncomputable def laidWorld (os:Os):World:=Jt 13 (cells2 Rows.laid_math_bits_deBruijn64tab) (Jt 12 (cells2 Rows.laid_math_bits_deBruijn32tab) (Jt 11 (cells2 Rows.laid_internal_strconv_uint64pow10) (Jt 10 (cells2 Rows.laid_unicode_utf8_acceptRanges) (Jt 9 (cells2 Rows.laid_unicode_utf8_first) (World.doorLaid prog 400 os)))))
theorem laid_met (os:Os):laidMetH prog Rows.fnExactValidBossRow.laid ((laidWorld os).forCall (fun _ _=>0) ⟨#[],#[zb],[]⟩).memory:=
 laidMetH_of_parts (laidMet_of_run' 8 (by kernel_rfl) (by kernel_rfl)) (by kernel_rfl)
theorem reads (os:Os) (enc:TypeId×Value->H):∃ ds gs places,DataW.whole enc prog ((laidWorld os).forCall (fun _ _=>0) ⟨#[],#[zb],[]⟩).memory Tryz.f3.params.toList Rows.fnExactValidBossSpec.vars false (#[zb]:Array Value).toList 8=some (ds,gs,places):=by
 have h:(DataW.whole enc prog ((laidWorld os).forCall (fun _ _=>0) ⟨#[],#[zb],[]⟩).memory Tryz.f3.params.toList Rows.fnExactValidBossSpec.vars false (#[zb]:Array Value).toList 8).isSome=true:=by kernel_rfl
 obtain ⟨⟨a,b,c⟩,e⟩:=Option.isSome_iff_exists.1 h;exact ⟨a,b,c,e⟩
