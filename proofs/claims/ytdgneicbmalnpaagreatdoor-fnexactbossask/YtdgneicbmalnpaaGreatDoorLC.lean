import Derived.Test.YtdgneicbmalnpaaGreatDoorbR
import Derived.Test.YtdgneicbmalnpaaGreatDoorLE
set_option linter.all false
set_option maxHeartbeats 0
set_option maxRecDepth 99999
namespace Go.Proofs.YtdgneicbmalnpaaGreatDoor.fnExactBossAsk
open Proofs.Tryz Go.ChangeShapes Go.WideShapes Go.ChangeAt Go.RowKit
theorem bs_up{b:Bs}(h:lg b maxLen):lg b 9223372036854775807:=by
 have M:maxLen<=9223372036854775807:=by unfold maxLen;omega
 have t:∀{n:Nat},n<=maxLen->n<=9223372036854775807:=λh=>Nat.le_trans h M;exact⟨t h.sl,λi=>t (h.ss i),t h.ll,λi=>t (h.ls i),t h.fl,λi=>⟨t (h.fz i).1,t (h.fz i).2⟩,⟨⟨t h.st.1.1,λi=>t (h.st.1.2 i)⟩,t h.st.2.1,λi=>⟨t (h.st.2.2 i).1,t (h.st.2.2 i).2.1,λj=>⟨t ((h.st.2.2 i).2.2.1 j).1,t ((h.st.2.2 i).2.2.1 j).2⟩,t (h.st.2.2 i).2.2.2⟩⟩,t h.hl,t h.rl,λi=>t (h.rs i),t h.nl,λi=>⟨t (h.ns i).1,t (h.ns i).2.1,⟨t (h.ns i).2.2.1.1,λj=>⟨t ((h.ns i).2.2.1.2 j).1,t ((h.ns i).2.2.1.2 j).2⟩⟩,t (h.ns i).2.2.2⟩,t h.jl,λi=>t (h.js i)⟩
theorem contract(H:Type)(enc:TypeId×Value->H)(W:World)(base:Nat)(args:Array Value)(ds gs:List (DataW H))(before:List MemPlace)
 (hval:∀(j:Nat) t v,Tryz.f3.params[j]?=some t->args[j]?=some v->Value.okWide prog W .any base t v)
 (hW:DataW.Whole enc prog Tryz.f3.params.toList Rows.fnExactBossAskSpec.vars false W args.toList ds gs before) (hL:laidMetH prog Rows.fnExactBossAskRow.laid W) (hSO:W.ShapedOpen prog):
 Calls prog 3 args W λe W'=>∃v,e=.returned v/\Rows.fnExactBossAskSpec.post enc prog Tryz.f3 false true false false W args v W':=by
 have hvz:G.Vk W:=vars_of_laid hL hSO;have hW':=hW;obtain⟨p,q,hA0,hV,rfl,hfz,hnd⟩:=hW;have hA:DataW.TrodAll enc prog W 0 (λ_=>true) true Tryz.f3.params.toList args.toList ds p:=hA0;rw[Tryz.params3]at hA hval;obtain⟨v0,vs0,d0,ds0,p0,q0,hargs,rfl,rfl,h0,r0⟩:=trodAll_cons hA;obtain⟨v1,vs1,d1,ds1,p1,q1,hargs1,rfl,rfl,h1,r1⟩:=trodAll_cons r0;obtain⟨rfl,rfl,rfl⟩:=trodAll_nil r1;rw[hargs1]at hargs;obtain rfl:args=#[v0,v1]:=Array.ext' hargs;obtain⟨a1,rfl,rfl,rfl,w1⟩:=Go.ChangeMaps.open_string underlying9 (hval 1 9 v1 rfl rfl) h1;have hV1:=hV;obtain⟨g1,g2,g3,g4,g5,g6,g7,rfl⟩:∃g1 g2 g3 g4 g5 g6 g7,gs=[g1,g2,g3,g4,g5,g6,g7]:=by
  have hV2:DataW.TrodVars enc prog W (λ_=>true) ["loop.example/kiln/impl.errTaken", "loop.example/kiln/impl.errLong", "loop.example/kiln/impl.errEnd", "loop.example/kiln/impl.errShape", "loop.example/kiln/impl.errMany", "loop.example/kiln/impl.errMake", "loop.example/kiln/impl.errOrder"] gs q:=hV;rcases gs with _|⟨g1,gs⟩
  ·exact hV2.elim
  obtain⟨_,_,_,_,_,_,_,_,_,_,hV3,_⟩:=hV2;rcases gs with _|⟨g2,gs⟩
  ·exact hV3.elim
  obtain⟨_,_,_,_,_,_,_,_,_,_,hV4,_⟩:=hV3;rcases gs with _|⟨g3,gs⟩
  ·exact hV4.elim
  obtain⟨_,_,_,_,_,_,_,_,_,_,hV5,_⟩:=hV4;rcases gs with _|⟨g4,gs⟩
  ·exact hV5.elim
  obtain⟨_,_,_,_,_,_,_,_,_,_,hV6,_⟩:=hV5;rcases gs with _|⟨g5,gs⟩
  ·exact hV6.elim
  obtain⟨_,_,_,_,_,_,_,_,_,_,hV7,_⟩:=hV6;rcases gs with _|⟨g6,gs⟩
  ·exact hV7.elim
  obtain⟨_,_,_,_,_,_,_,_,_,_,hV8,_⟩:=hV7;rcases gs with _|⟨g7,gs⟩
  ·exact hV8.elim
  obtain⟨_,_,_,_,_,_,_,_,_,_,hV9,_⟩:=hV8;rcases gs with _|⟨g8,gs⟩
  ·exact⟨_,_,_,_,_,_,_,rfl⟩
  exact hV9.elim
 have k0:=h0;have lt0:∀x∈p0,x.block<W.heap.size:=by obtain⟨m,hm⟩:=k0;exact DataW.trod_lt m _ _ _ hm
 obtain⟨cs,rfl,hsz⟩:=okWide_struct underlying35 (hval 0 35 v0 rfl rfl);obtain⟨fuel,hf⟩:=h0;obtain⟨b,q',hcs,hle,hat⟩:=XQ hf;obtain rfl:cs=(bsV b q').toArray:=by
  obtain⟨l⟩:=cs;simp only[Value.cells]at hcs;exact congrArg _ hcs
 clear hA0 hcs;refine(c3 b q' a1 W (bs_up hle) (by unfold maxLen at w1;omega) hvz hat).mono λe W' ⟨he,bel⟩=>?_;subst he;exact⟨_,rfl,_,_,_,[],_,_,hW',trodAll_mk1 (shut_bool underlying4 _),(trodAll_cons_mk (Below.trod laidOut (by kernel_rfl) (of_decide_eq_true (by kernel_rfl)) k0 bel lt0) (trodAll_cons_mk (Go.ChangeMaps.shut_string underlying9 w1) trodAll_mk0)),Below.trodVars laidOut bel (by kernel_rfl) hV1,bel.frame _,λh=>by cases h⟩
