import Derived.Test.YtkccjgajimjjdaaGreatDooreEO
import Derived.Test.YtkccjgajimjjdaaGreatDoorME
set_option maxHeartbeats 8000000
set_option maxRecDepth 100000
set_option linter.unusedVariables false
set_option linter.unusedSimpArgs false
namespace Go.Proofs.YtkccjgajimjjdaaGreatDoor
open Proofs.Tryz Go.RowKit
theorem Yv:Inf prog 9 1:=Zc Y1
theorem fU:Inf prog 162 3:=Zc Y1
theorem a1m:Inf prog 213 3:=Zc Y1
variable{w u u':World}{base size n A k:Nat}{e t:TypeId}{v tv rv:Value}{xs vs:List Value}
theorem Ei{B:Nat}(h:B=w.heap.size):Cl (w.alloc (.cells xs.toArray t)) B t xs:=h▸X4 w xs t
theorem D9(h:w.ownsRow base e size v n xs):∃a c,v=.slice a n c:=by
 rcases h.2 with⟨rfl,rfl⟩|⟨g,cap,cur,rfl,_⟩
 ·exact⟨_,_,rfl⟩
 exact⟨_,_,rfl⟩
theorem aJ(h:w.ownsRow base e size v n xs)(a:v.ownBlock≠none):∃g c,v=.slice (some ⟨g,0,none⟩) n c:=by
 rcases h.2 with⟨rfl,rfl⟩|⟨g,cap,cur,rfl,_⟩
 ·exact absurd rfl a
 exact⟨_,_,rfl⟩
theorem W_{B:Nat}(h:Below B w u)(g:u.grownBy u' v.ownBlock)(hz:B<=u.heap.size)(hv:∀k,v.ownBlock=some k->B<=k):Below B w u':=
 ⟨g.os.trans h.os,g.tape.trans h.tape,g.output.trans h.output,I8 h.size g.size,λk a=>(g.block k O0 (λe=>by have:=hv k e.symm;omega)).trans (h.block k a)⟩
theorem row0(w:World)(e:TypeId)(size:Nat){B:Nat}(hB:B=w.heap.size)(a:base<=B):(w.alloc (.cells #[] e)).ownsRow base e size (.slice (some ⟨B,0,none⟩) 0 0) 0 []:=by
 subst hB;exact⟨E5,.inr ⟨w.heap.size,0,#[],rfl,a,heap_alloc_new w _,J8 _,Z5,E5,E5⟩⟩
theorem xK(h:w.ownsRow base e size v n xs)(a:∀g,v.ownBlock=some g->u.heap[g]?=w.heap[g]?):Src u v size n xs:=by
 have hl:=h.1;rcases h.2 with⟨rfl,rfl⟩|⟨g,cap,cur,rfl,hb,c,hnc,hcm,hcs,b⟩
 ·exact .inl ⟨⟨_,rfl⟩,rfl,Qb.1 (by rw[hl,Wv])⟩
 refine .inr ⟨⟨g,0,none⟩,cap,rfl,hl,λj x e=>?_⟩;rw[<- b,Gw]at e;split at e;rotate_left
 ·cases e
 rw[Bo,Lib.cell_of_heap ((a g rfl).trans c)];simpa using e
theorem Oh(h:w.ownsRow base e size v n xs){j:Nat}{x:Value}(hx:xs[j]?=some x):∃g c,v=.slice (some ⟨g,0,none⟩) n c/\g<w.heap.size/\w.cell? ⟨g,j,none⟩=some x:=by
 have hl:=h.1;rcases h.2 with⟨rfl,rfl⟩|⟨g,cap,cur,rfl,hb,a,hnc,hcm,hcs,b⟩
 ·rw[Qb.1 (show xs.length=0 by rw[hl,Wv])]at hx;cases hx
 refine⟨g,cap,rfl,(Eb.1 a).1,?_⟩;rw[<- b,Gw]at hx;split at hx;rotate_left
 ·cases hx
 rw[Lib.cell_of_heap a];simpa using hx
theorem LZ{rs:List R3}(h:vg w base v rs vs)(f:k<rs.length):∃g c a d,v=.slice (some ⟨g,0,none⟩) rs.length c/\g<w.heap.size/\vs.getD k undef=.slice a (rs.getD k h_).gs.length d/\w.cell? ⟨g,k*3,none⟩=some (.string (rs.getD k h_).key)/\w.cell? ⟨g,k*3+1,none⟩=some (.slice a (rs.getD k h_).gs.length d)/\w.cell? ⟨g,k*3+2,none⟩=some (.string (rs.getD k h_).out)/\w.ownsRow base 213 3 (.slice a (rs.getD k h_).gs.length d) (rs.getD k h_).gs.length (gC (rs.getD k h_).gs):=by
 obtain⟨l,a1,a2⟩:=oZ rs vs k f;obtain⟨a,d,hv,hr⟩:=h.gl k f;rw[hv]at a1;obtain⟨g,c,rfl,i,e0⟩:=Oh h.row l;obtain⟨_,_,e,_,e1⟩:=Oh h.row a1;obtain⟨_,_,b,_,j⟩:=Oh h.row a2;injection e with e;injection e with e;injection e with e;injection b with b;injection b with b;injection b with b;subst e b;exact⟨g,c,a,d,rfl,i,hv,e0,e1,j,hr⟩
structure C7(w:World)(A:Nat)(s:St)(tv rv tv' v2:Value)(P:List R3)(vs:List Value)(u:World):Prop where
 b:Below w.heap.size w u
 h0:Cl u w.heap.size 43 [.int .i64 s.wd,tv,rv]
 h1:Cl u (w.heap.size+1) 43 [.int .i64 0,.slice none 0 0,.slice none 0 0]
 ha:Cl u A 43 [.int .i64 s.wd,tv',v2]
 hA:w.heap.size+2<=A
 ht:u.ownsRow (w.heap.size+2) 9 1 tv' s.ts.length (s.ts.map .string)
 hr:vg u (w.heap.size+2) v2 P vs
theorem C7.below{s:St}{tv' v2:Value}{P:List R3}(h:C7 w A s tv rv tv' v2 P vs u)(a:Below u.heap.size u u'):C7 w A s tv rv tv' v2 P vs u':=
 ⟨h.b.trans (a.mono h.b.size),h.h0.below a h.h0.lt,h.h1.below a h.h1.lt,h.ha.below a h.ha.lt,h.hA,own_below h.ht a,h.hr.keep (λq t hT _ _=>a.block q (Je hT))⟩
theorem K_{B:Nat}(h:Cl w B t xs):Ah w B t:=⟨_,_,h⟩
theorem C7.make{s:St}{tv':Value}{W y z:World}(d:Below w.heap.size w W)(h0:Cl W w.heap.size 43 [.int .i64 s.wd,tv,rv])(h1:Cl W (w.heap.size+1) 43 [.int .i64 0,.slice none 0 0,.slice none 0 0])(hz:W.heap.size=w.heap.size+2)(c:Below W.heap.size W y)(hA:w.heap.size+2<=A)(ht:y.ownsRow (w.heap.size+2) 9 1 tv' s.ts.length (s.ts.map .string))(ho:Jr A y z)(hc:Cl y A 43 xs)(b:Cl z A 43 [.int .i64 s.wd,tv',.slice none 0 0]):C7 w A s tv rv tv' (.slice none 0 0) [] [] z:=
 have hB:Below (w.heap.size+2) W z:=(hz▸c).trans (ho.below hA)
 ⟨d.trans (hB.mono O0),h0.below hB O0,h1.below hB O0,b,hA,I5 ht (λq a=>ho.block q (λe=>absurd (Z8 (K_ hc) (e▸N7 ht a)) Z5)),⟨rfl,Y_ _ _ _ _,λi h=>absurd h (y9 _),λi j h=>absurd h (y9 _)⟩⟩
theorem C7.app{s:St}{tv' v2 f:Value}{P:List R3}{y:R3}{g Z d:World}{v:OA}{o:Nat}(h:C7 w A s tv rv tv' v2 P vs u)(E:Below u.heap.size u g)(k:g.ownsRow (u.heap.size+1) 213 3 (.slice v y.gs.length o) y.gs.length (gC y.gs))(n:Below g.heap.size g Z)(z:d.ownsRow (w.heap.size+2) 162 3 f (P.length+1) (rC P vs++[.string y.key,.slice v y.gs.length o,.string y.out]))(x:Z.grownBy d v2.ownBlock):
 C7 w A s tv rv tv' f (P++[y]) (vs++[.slice v y.gs.length o]) (d.setCell ⟨A,2,none⟩ f)/\Cl d A 43 [.int .i64 s.wd,tv',v2]:=by
 have i:=J5 E n;have c:=h.below i;have hu:=h.b.size;have ha:=h.ha.lt;have hA:=h.hA;have D:=W_ (G5 (w.heap.size+2) Z) x (by have:=i.size;omega) (λj e=>Z4 h.hr.row e);have kp:∀q t,Ah Z q t->t≠162->d.heap[q]?=Z.heap[q]?:=λq t hT ht=>x.block q (Je hT) (λe=>ht (Z8 hT (N7 c.hr.row e.symm)));have p:Cl d A 43 [.int .i64 s.wd,tv',v2]:=(kp A 43 (K_ c.ha) Z5).trans c.ha;have m:=O_ d A 2 f;have r:=D.trans (m.below hA);have l:∀q t,Ah Z q t->t≠162->t≠43->(d.setCell ⟨A,2,none⟩ f).heap[q]?=Z.heap[q]?:=λq t hT h1 h2=>(m.block q (λe=>h2 (Z8 (e▸hT) (K_ c.ha)))).trans (kp q t hT h1);refine⟨⟨c.b.trans (r.mono O0),c.h0.below r O0,c.h1.below r O0,p.set 2 f,hA,I5 c.ht (λq a=>l q 9 (N7 c.ht a) Z5 Z5),?_⟩,p⟩;have C:=I5 z (λq a=>m.block q (λe=>absurd (Z8 (K_ p) (e▸N7 z a)) Z5));have B:=I5 (own_below k n) (λq a=>l q 213 (N7 (own_below k n) a) Z5 Z5);exact ZG h.hr (P7 B O0) C (λq a=>(l q 213 (a.below i (Je a)) Z5 Z5).trans (i.block q (Je a))) (λq a=>by have:=Z4 k a;omega)
theorem Nc(ts:LB):∀v∈ts.map Value.string,v.oneCell'=true:=λv hv=>by
 obtain⟨x,_,rfl⟩:=zl.1 hv;rfl
theorem own_ne{v:Value}{q n c k:Nat}(h:v.ownBlock=(Value.slice (some ⟨q,0,none⟩) n c).ownBlock\/v.ownBlock=some k):v.ownBlock≠none:=by
 rcases h with h|h<;>rw[h]<;>exact λe=>nomatch e
theorem BO{X j:Nat}{y:Value}(h:w.ownsRow base e size v n xs)(hv:v.ownBlock≠some X):(w.setCell ⟨X,j,none⟩ y).ownsRow base e size v n xs:=I5 h (λq a=>(O_ w X j y).block q (λe=>hv (e▸a)))
theorem a1B{base':Nat}{rs:List R3}(h:vg w base v rs vs)(a:base'<=base):vg w base' v rs vs:=⟨h.len,P7 h.row a,λi b=>(by obtain⟨d,c3,e,c⟩:=h.gl i b;exact⟨d,c3,e,P7 c a⟩),h.apart⟩
theorem gV{P rs:List R3}(h:P <+:rs)(hl:P.length<rs.length):P++[rs.getD P.length h_] <+:rs:=by
 obtain⟨t,rfl⟩:=h
 cases t with
 | nil=>simp at hl
 | cons x r=>exact⟨r,by simp[List.getD]⟩
theorem a1P(s:St)(ta ra:OA)(tc rc:Nat)(w:World)(htl:s.ts.length<=1048576)(hrl:s.rs.length<=1048576)(hgl:∀i,(s.rs.getD i h_).gs.length<=1048576)(ht:∀u,Below w.heap.size w u->Src u (.slice ta s.ts.length tc) 1 s.ts.length (s.ts.map .string))
 (hr:∀u,Below w.heap.size w u->∀k,k<s.rs.length->∃g o a d,ra=some ⟨g,o,none⟩/\g<u.heap.size/\u.cell? ⟨g,o+k*3,none⟩=some (.string (s.rs.getD k h_).key)/\u.cell? ⟨g,o+k*3+1,none⟩=some (.slice a (s.rs.getD k h_).gs.length d)/\u.cell? ⟨g,o+k*3+2,none⟩=some (.string (s.rs.getD k h_).out)/\∀z,Below u.heap.size u z->Src z (.slice a (s.rs.getD k h_).gs.length d) 3 (s.rs.getD k h_).gs.length (gC (s.rs.getD k h_).gs)):
 Calls prog 68 #[.agg #[.int .i64 s.wd,.slice ta s.ts.length tc,.slice ra s.rs.length rc]] w λe w'=>(∃g c ra rc,e=.returned (.agg #[.int .i64 s.wd,.slice (some ⟨g,0,none⟩) s.ts.length c,.slice ra s.rs.length rc])/\Z_ w' w.heap.size s.ts s.rs (.slice (some ⟨g,0,none⟩) s.ts.length c) (.slice ra s.rs.length rc))/\Below w.heap.size w w':=by
 have HT:=U0 ht;have HRR:=U0 hr;clear ht hr;have HGL:=U0 hgl;clear hgl
 go_in
 go_upto_region 1 with fail
 obtain⟨W,R⟩:∃W:World,W=(w.alloc (.cells #[.int .i64 s.wd,.slice ta s.ts.length tc,.slice ra s.rs.length rc] 43)).alloc (.cells #[.int .i64 0,.slice none 0 0,.slice none 0 0] 43):=⟨_,rfl⟩;rw[<- R];have bW:Below w.heap.size w W:=by rw[R];exact Y6.alloc E5 _
 have H0:Hid (Cl W w.heap.size 43 [.int .i64 s.wd,.slice ta s.ts.length tc,.slice ra s.rs.length rc]):=by show Cl _ _ _ _;rw[R];exact U8 (X4 w [_,_,_] 43) _
 have H1:Hid (Cl W (w.heap.size+1) 43 [.int .i64 0,.slice none 0 0,.slice none 0 0]):=by show Cl _ _ _ _;rw[R];exact Ei (xs:=[_,_,_]) E5
 have E:Hid (W.heap.size=w.heap.size+2):=by show _=_;rw[R];simp
 have x:Hid (∀y,Below W.heap.size W y->y.cell? ⟨w.heap.size,0,none⟩=some (.int .i64 s.wd)/\y.cell? ⟨w.heap.size,1,none⟩=some (.slice ta s.ts.length tc)):=λy f=>have h:=H0.out.below f H0.out.lt;⟨h.cell 0,h.cell 1⟩
 have HR:Hid (∀y,Below W.heap.size W y->Src y (.slice ta s.ts.length tc) 1 s.ts.length (s.ts.map .string)):=λy f=>HT.out y (J5 bW f);clear R
 go_cut[3] from 3 (λs3 wx=>∃A g c,s3=.pointer (some ⟨A,0,none⟩)/\Hid (C7 w A s (.slice ta s.ts.length tc) (.slice ra s.rs.length rc) (.slice (some ⟨g,0,none⟩) s.ts.length c) (.slice none 0 0) [] [] wx))
 case first=>
  have hbd:Below W.heap.size W W.drew:=(G5 _ _).drew;have HM:Hid (∀(A:Nat)(tv':Value)(y z:World),Below W.heap.size W y->w.heap.size+2<=A->y.ownsRow (w.heap.size+2) 9 1 tv' s.ts.length (s.ts.map .string)->Jr A y z->Cl y A 43 [.int .i64 0,.slice none 0 0,.slice none 0 0]->Cl z A 43 [.int .i64 s.wd,tv',.slice none 0 0]->C7 w A s (.slice ta s.ts.length tc) (.slice ra s.rs.length rc) tv' (.slice none 0 0) [] [] z):=λA tv' y z h1 h2 h3 h4 h5 J=>C7.make bW H0.out H1.out E.out h1 h2 h3 h4 h5 J;refine FI x hbd Y1 λhH=>?_;refine tq 0 hH ?_;refine tq 1 hH ?_;refine tq 3 hH ?_;refine p_ 4 ?_;have hz2:=uh E.out.symm;refine wpAnyH_ready (rs:=[2,7]) Y1 E5 (AllReadyH.cons (o:=⟨some 8,.buildSlice 22 0 #[],22,_,_,none⟩) rfl (λK l=>?_) (AllReadyH.cons (o:=⟨some 3,.alloc 43,0,_,_,none⟩) rfl (λK l=>?_) AllReadyH.nil))
  focus
   go_simp;obtain⟨y,f⟩:∃q:World,q=(W.alloc (.cells #[] 9)).drew:=⟨_,rfl⟩;rw[<- f];have r:Below W.heap.size W y:=by rw[f];exact Y6.drew
   have R1:Hid (y.ownsRow (w.heap.size+2) 9 1 (.slice (some ⟨W.heap.size,0,none⟩) 0 0) 0 []):=by show World.ownsRow _ _ _ _ _ _ _;rw[f];exact row0 W 9 1 rfl hz2
   clear f;refine A8 l (x.out _ r) λhH=>?_;clear l K;refine wpAnyH_ready (rs:=[5,7]) Y1 E5 (AllReadyH.cons (o:=⟨some 11,.call ⟨.builtin .append,#[.tmp 8,.tmp 10],#[22,22]⟩,22,_,_,none⟩) rfl (λK l=>?_) (AllReadyH.cons (o:=⟨some 3,.alloc 43,0,_,_,none⟩) rfl (λK l=>?_) AllReadyH.nil))
   ·refine Ea rfl _ _ 22 rfl (w.heap.size+2) 9 1 underlying22 Yv Z5 (.slice (some ⟨W.heap.size,0,none⟩) 0 0) 0 [] rfl R1.out _ s.ts.length (s.ts.map .string) rfl (HR.out _ r) (Nc _) O0 (by have:=r.size;omega) ?_;intro v O m B I;rw[o9,j_]at m;obtain⟨g,c,rfl⟩:=aJ m (own_ne I);have X:=W_ (G5 (w.heap.size+2) _) B (by have:=r.size;omega) (λj e=>Z4 R1.out e);have p:=r.trans (E.out.symm▸X);have OV:=U0 m;have gq:=B;clear m B I;refine A8 l (x.out _ p) λhH=>?_;clear l K;refine sq ?_;refine rq 7 λK l=>?_;go_simp;obtain⟨y3,f⟩:∃q:World,q=O.alloc (.cells #[.int .i64 0,.slice none 0 0,.slice none 0 0] 43):=⟨_,rfl⟩;have b3:Below W.heap.size W y3:=by rw[f];exact p.alloc p.size _
    have n:Hid (Cl y3 O.heap.size 43 [.int .i64 0,.slice none 0 0,.slice none 0 0]):=by show Cl _ _ _ _;rw[f];exact X4 _ [_,_,_] 43
    rw[<- f];have O3:=U0 (own_below OV.out (u':=y3) (by rw[f];exact Y6));clear f;refine A8 l (x.out _ b3) λhH=>?_;clear l K;refine rq 8 λK l=>?_;refine t_ rfl 43 _ _ rfl (j:=0) rfl rfl n.out X7 (by simp[Value.oneCell']) Y1 ?_;intro z L D;have hz8:=U0 (HM.out _ _ _ _ b3 (by have:=p.size;omega) O3.out D n.out L);refine A8 l (x.out _ (b3.trans (D.below (by have:=r.size;have:=p.size;omega)))) λhH=>?_;clear l K;refine wdn ?_
    go_wp2_with fail
    go_meet
    exact⟨_,_,_,rfl,hz8⟩
   go_simp;obtain⟨Q,f⟩:∃q:World,q=y.alloc (.cells #[.int .i64 0,.slice none 0 0,.slice none 0 0] 43):=⟨_,rfl⟩;have C:Below W.heap.size W Q:=by rw[f];exact r.alloc r.size _
   have n:Hid (Cl Q y.heap.size 43 [.int .i64 0,.slice none 0 0,.slice none 0 0]):=by show Cl _ _ _ _;rw[f];exact X4 _ [_,_,_] 43
   rw[<- f];have N:=U0 (own_below R1.out (u':=Q) (by rw[f];exact Y6));clear f;refine A8 l (x.out _ C) λhH=>?_;clear l K;refine rq 5 λK l=>?_;refine Ea rfl _ _ 22 rfl (w.heap.size+2) 9 1 underlying22 Yv Z5 (.slice (some ⟨W.heap.size,0,none⟩) 0 0) 0 [] rfl N.out _ s.ts.length (s.ts.map .string) rfl (HR.out _ C) (Nc _) O0 (by have:=C.size;omega) ?_;intro v O m B I;rw[o9,j_]at m;obtain⟨g,c,rfl⟩:=aJ m (own_ne I);have X:=W_ (G5 (w.heap.size+2) _) B (by have:=C.size;omega) (λj e=>Z4 N.out e);have p:=C.trans (E.out.symm▸X);have OV:=U0 m;have gq:=B;clear m B I;refine A8 l (x.out _ p) λhH=>?_;clear l K;refine sq ?_;have CV:Hid (Cl O y.heap.size 43 [.int .i64 0,.slice none 0 0,.slice none 0 0]):=(gq.block _ n.out.lt (λe=>absurd (Z8 (K_ n.out) (N7 N.out e.symm)) Z5)).trans n.out;refine rq 8 λK l=>?_;refine t_ rfl 43 _ _ rfl (j:=0) rfl rfl CV.out X7 (by simp[Value.oneCell']) Y1 ?_;intro z L D;have hz8:=U0 (HM.out _ _ _ _ p (by have:=r.size;omega) OV.out D CV.out L)
  rotate_left
  focus
   go_simp;obtain⟨y,f⟩:∃q:World,q=(W.alloc (.cells #[.int .i64 0,.slice none 0 0,.slice none 0 0] 43)).drew:=⟨_,rfl⟩;have r:Below W.heap.size W y:=by rw[f];exact Y6.drew
   have n:Hid (Cl y W.heap.size 43 [.int .i64 0,.slice none 0 0,.slice none 0 0]):=by show Cl _ _ _ _;rw[f];exact X4 _ [_,_,_] 43
   rw[<- f];have hys:=n.out.lt;clear f;refine A8 l (x.out _ r) λhH=>?_;clear l K;refine rq 2 λK l=>?_;go_simp;obtain⟨Q,f⟩:∃q:World,q=y.alloc (.cells #[] 9):=⟨_,rfl⟩;rw[<- f];have hbb:Below y.heap.size y Q:=by rw[f];exact Y6
   have C:=J5 r hbb;have N:Hid (Q.ownsRow (w.heap.size+2) 9 1 (.slice (some ⟨y.heap.size,0,none⟩) 0 0) 0 []):=by show World.ownsRow _ _ _ _ _ _ _;rw[f];exact row0 y 9 1 rfl O0
   have n:=U0 (n.out.below hbb n.out.lt);clear f;refine A8 l (x.out _ C) λhH=>?_;clear l K;refine rq 5 λK l=>?_;refine Ea rfl _ _ 22 rfl (w.heap.size+2) 9 1 underlying22 Yv Z5 (.slice (some ⟨y.heap.size,0,none⟩) 0 0) 0 [] rfl N.out _ s.ts.length (s.ts.map .string) rfl (HR.out _ C) (Nc _) O0 (by have:=C.size;omega) ?_;intro v O m B I;rw[o9,j_]at m;obtain⟨g,c,rfl⟩:=aJ m (own_ne I);have X:=W_ (G5 (w.heap.size+2) _) B (by have:=C.size;omega) (λj e=>Z4 N.out e);have p:=C.trans (E.out.symm▸X);have OV:=U0 m;have gq:=B;clear m B I;refine A8 l (x.out _ p) λhH=>?_;clear l K;refine sq ?_;have CV:Hid (Cl O W.heap.size 43 [.int .i64 0,.slice none 0 0,.slice none 0 0]):=(gq.block _ n.out.lt (λe=>absurd (Z8 (K_ n.out) (N7 N.out e.symm)) Z5)).trans n.out;refine rq 8 λK l=>?_;refine t_ rfl 43 _ _ rfl (j:=0) rfl rfl CV.out X7 (by simp[Value.oneCell']) Y1 ?_;intro z L D;have hz8:=U0 (HM.out _ _ _ _ p hz2 OV.out D CV.out L)
  all_goals
   refine A8 l (x.out _ (p.trans (D.below (by have:=r.size;have:=p.size;omega)))) λhH=>?_;clear l K;refine wdn ?_
   go_wp2_with fail
   go_meet
   exact⟨_,_,_,rfl,hz8⟩
 obtain⟨A,g,c,rfl,HC⟩:=hcut;clear x HR H0 H1 E bW;go_wp2;go_loopw[4] (λi wr=>∃(P:List R3)(v2:Value)(vs:List Value),i=.int .i64 P.length/\P.length<=s.rs.length/\Hid (P <+:s.rs)/\Hid (C7 w A s (.slice ta s.ts.length tc) (.slice ra s.rs.length rc) (.slice (some ⟨g,0,none⟩) s.ts.length c) v2 P vs wr)) (λi _=>s.rs.length-(RowKit.intOf i).toNat);exact⟨[],_,_,rfl,J4 _,List.nil_prefix,HC⟩;obtain⟨P,v2,vs,rfl,hk,hP,H⟩:=hrel;obtain⟨a2,c2,rfl⟩:=D9 H.out.hr.row;have d0:=H.out.h0.cell 2;have k0:=H.out.ha.cell 0;have k1:=H.out.ha.cell 1;have k2:=H.out.ha.cell 2;simp only[gz]at d0 k0 k1 k2;by_cases hlt:P.length<s.rs.length;rotate_left
 ·have hPe:=List.IsPrefix.eq_of_length hP.out O0;subst hPe
  go_wp2_with(refine I7 rfl 43 _ _ rfl (j:=0) rfl rfl H.out.h1 X7 (by simp[Value.oneCell']) Y1 ?_;intro z L D)
  have kz:∀q t,Ah wr q t->t≠43->z.heap[q]?=wr.heap[q]?:=λq t hT h=>D.block q (λe=>h (Z8 (e▸hT) (K_ H.out.h1)));exact Q7 (v:=.agg #[.int .i64 s.wd,.slice (some ⟨g,0,none⟩) s.ts.length c,.slice a2 s.rs.length c2]) (J7 (P:=prog) (ty:=43) rfl _ z (w.heap.size+1) [.int .i64 s.wd,.slice (some ⟨g,0,none⟩) s.ts.length c,.slice a2 s.rs.length c2] _ rfl L.blk underlying43 rfl Y1) rfl ⟨⟨_,_,_,_,rfl,P7 (I5 H.out.ht (λq hq=>kz q 9 (N7 H.out.ht hq) Z5)) O0,vs,a1B (H.out.hr.keep (λq t hT ht _=>kz q t hT (by rcases ht with rfl|rfl<;>decide))) O0⟩,H.out.b.trans (D.below O0)⟩
 obtain⟨g5,o5,ga,gd,rfl,hg5,e0,e1,e2,hgr⟩:=HRR.out wr H.out.b P.length hlt;have hn:=HGL.out P.length;have HPY:=U0 (gV hP.out hlt);generalize s.rs.getD P.length h_=y at*;have HGR:=U0 hgr;clear hgr hP HRR;obtain⟨Y,V⟩:∃Y:World,Y=(wr.alloc (.cells #[.string y.key,.slice ga y.gs.length gd,.string y.out] 162)).alloc (.cells #[] 213):=⟨_,rfl⟩;have bY:Below wr.heap.size wr Y:=by rw[V];exact Y6.alloc E5 _
 have CX:Hid (Cl Y wr.heap.size 162 [.string y.key,.slice ga y.gs.length gd,.string y.out]):=by show Cl _ _ _ _;rw[V];exact U8 (X4 wr [_,_,_] 162) _
 have RX:Hid (Y.ownsRow (wr.heap.size+1) 213 3 (.slice (some ⟨wr.heap.size+1,0,none⟩) 0 0) 0 []):=by show World.ownsRow _ _ _ _ _ _ _;rw[V];exact row0 _ 213 3 E5 X7
 have SX:=U0 (HGR.out Y bY);have hYs:=CX.out.lt
 go_upto_region 7 with(at_builtin;rw[<- V];refine Vd rfl _ _ 160 rfl (wr.heap.size+1) 213 3 underlying160 a1m Z5 (.slice (some ⟨wr.heap.size+1,0,none⟩) 0 0) 0 [] rfl RX.out _ y.gs.length (gC y.gs) rfl SX.out (aQ y.gs) O0 O0 ?_;intro v5 y5 O5 gw _;rw[o9,j_]at O5;obtain⟨U,S,rfl⟩:=D9 O5;have b5:=W_ (G5 (wr.heap.size+1) Y) gw O0 (λj e=>Z4 RX.out e);have C5:=CX.out.below b5 O0;have n1:=C5.cell 1;have nf:=C5.opn 1;simp only[gz]at n1;clear gw)
 obtain⟨F,J⟩:∃q:World,q=y5.setCell ⟨wr.heap.size,1,none⟩ (.slice U y.gs.length S):=⟨_,rfl⟩;rw[<- J];have b6:Below wr.heap.size wr F:=by rw[J];exact(bY.trans (b5.mono O0)).setCell X7 _
 have C6:Hid (Cl F wr.heap.size 162 [.string y.key,.slice U y.gs.length S,.string y.out]):=by show Cl _ _ _ _;rw[J];exact C5.set 1 _
 have R6:Hid (F.ownsRow (wr.heap.size+1) 213 3 (.slice U y.gs.length S) y.gs.length (gC y.gs)):=by show World.ownsRow _ _ _ _ _ _ _;rw[J];exact BO O5 (λe=>by have:=Z4 O5 e;omega)
 have H6:=U0 (H.out.below b6);clear J n1 nf C5 O5 b5 SX RX CX hYs bY V d0 k0 k1 k2 e0 e1 e2;have k2:=H6.out.ha.cell 2;have x0:=C6.out.cell 0;have x1:=C6.out.cell 1;have x2:=C6.out.cell 2;simp only[gz]at k2 x0 x1 x2;obtain⟨Z,hZ⟩:∃q:World,q=F.alloc (.cells #[.string y.key,.slice U y.gs.length S,.string y.out] 162):=⟨_,rfl⟩;have bZ:Below F.heap.size F Z:=by rw[hZ];exact Y6
 have CZ:Hid (Cl Z F.heap.size 162 [.string y.key,.slice U y.gs.length S,.string y.out]):=by show Cl _ _ _ _;rw[hZ];exact X4 _ [_,_,_] 162
 have E:=U0 (H6.out.below bZ);have hb0:w.heap.size+2<=Z.heap.size:=by have:=E.out.ha.lt;have:=E.out.hA;omega
 go_wp2_with(at_builtin;rw[<- hZ];refine Vd rfl _ _ 41 rfl (w.heap.size+2) 162 3 underlying41 fU Z5 (.slice a2 P.length c2) P.length (rC P vs) rfl E.out.hr.row _ 1 [.string y.key,.slice U y.gs.length S,.string y.out] rfl (.inr ⟨⟨F.heap.size,0,none⟩,1,rfl,rfl,Ti CZ.out⟩) (by simp[Value.oneCell']) O0 hb0 ?_;intro v7 y7 O7 g7 _;obtain⟨a7,c84,rfl⟩:=D9 O7;obtain⟨hN,hN2⟩:=H.out.app b6 R6.out bZ O7 g7;have m1:=hN2.cell 2;have m2:=hN2.opn 2;simp only[gz]at m1;have HN:=U0 hN;clear O7 g7 hN hN2)
 go_roundw;exact⟨P++[y],_,_,by rw[P9];go_num,by rw[P9];simp;omega,HPY,HN⟩;exact Z9
theorem c68(s:St)(b0:Nat)(tv rv:Value)(w:World)(htl:s.ts.length<=1000)(hrl:s.rs.length<=1000)(m:∀i,(s.rs.getD i h_).gs.length<=1000)(a:Z_ w b0 s.ts s.rs tv rv):
 Calls prog 68 #[.agg #[.int .i64 s.wd,tv,rv]] w λe w'=>(∃g c ra rc,e=.returned (.agg #[.int .i64 s.wd,.slice (some ⟨g,0,none⟩) s.ts.length c,.slice ra s.rs.length rc])/\Z_ w' w.heap.size s.ts s.rs (.slice (some ⟨g,0,none⟩) s.ts.length c) (.slice ra s.rs.length rc))/\Below w.heap.size w w':=by
 obtain⟨ta,tc,rfl⟩:=D9 a.1;obtain⟨ra,rc,rfl⟩:=D9 a.2.choose_spec.row;refine a1P s ta ra tc rc w O0 O0 (λi=>I8 (m i) Z5) (λu b=>xK a.1 (λg o=>b.block g (X9 a.1 o))) λu b k l=>?_;obtain⟨_,vs0,h⟩:=Rx a b;obtain⟨g5,c20,r,p,f,n,_,e0,e1,t,d⟩:=LZ h l;injection f with h1;exact⟨g5,0,r,p,h1,n,by rw[o9];exact e0,by rw[o9];exact e1,by rw[o9];exact t,λz hz=>xK d (λq j=>hz.block q (X9 d j))⟩
end Go.Proofs.YtkccjgajimjjdaaGreatDoor
namespace Go.Proofs.YtkccjgajimjjdaaGreatDoor
open Proofs.Tryz Go.RowKit Go.Maps
variable{W:Int}{t x:BY}{ts:LB}
theorem lZ(c:Int)(s a:BY)(w:World)(hf:ZB c s=a)(b:s.size<=1048700):Calls prog 179 #[.agg #[.int .i64 c,.string s]] w λe w'=>e=.returned (.string a)/\Bw w w':=by
 rw[<- hf];exact ET c s w b
theorem CO(W:Int)(t:BY)(ts:LB):(uo W t ts).length=ts.length+1:=by
 induction ts with
 | nil=>rfl
 | cons y r ih=>
  unfold uo;split
  ·rfl
  rw[u_,ih,u_]
theorem dR(h:x∈uo W t ts):x=t\/x∈ts:=by
 induction ts with
 | nil=>exact .inl (Dk.1 h)
 | cons y r ih=>
  unfold uo at h;split at h
  ·rcases Xe.1 h with h|h
   ·exact .inl h
   exact .inr h
  rcases Xe.1 h with h|h
  ·exact .inr (h▸Vr)
  exact(ih h).imp id (Og _)
theorem xN(W:Int)(t:BY)(ts:LB):(qc W t ts).1.length<=ts.length+1:=by
 unfold qc;split
 ·exact Nat.le_succ _
 exact uh (CO W t ts)
theorem QS(h:x∈(qc W t ts).1):x=t\/x∈ts:=by
 unfold qc at h;split at h
 ·exact .inr h
 exact dR h
theorem SG(W:Int)(a:LB):∀s:LB×Bool,(P8 W a s).1.length<=s.1.length+a.length:=by
 induction a with
 | nil=>exact λs=>J8 _
 | cons t r ih=>
  intro s;have h1:=ih ((qc W t s.1).1,s.2&&(qc W t s.1).2);have h2:=xN W t s.1;show(P8 W r _).1.length<=_;rw[u_];simp only[]at h1;omega
theorem Dz(a:LB):∀s:LB×Bool,x∈(P8 W a s).1->x∈a\/x∈s.1:=by
 induction a with
 | nil=>exact λs h=>.inr h
 | cons t r ih=>
  intro s h;rcases ih ((qc W t s.1).1,s.2&&(qc W t s.1).2) h with h|h
  ·exact .inl (Og _ h)
  rcases QS h with h|h
  ·exact .inl (h▸Vr)
  exact .inr h
theorem Xx(W:Int)(a:LB)(t:BY)(s:LB×Bool):P8 W (a++[t]) s=((qc W t (P8 W a s).1).1,(P8 W a s).2&&(qc W t (P8 W a s).1).2):=by
 rw[Yn];rfl
theorem lN(ls:List L4):(F_ ls).length<=ls.length:=by
 induction ls with
 | nil=>exact J8 _
 | cons x r ih=>
  unfold F_;split
  ·exact kK ih
  exact Nat.succ_le_succ ih
def JM(ls:List L4)(k:Nat):LB:=(F_ (ls.take k)).map λr=>ZB r.1 r.2
theorem KT{ls:List L4}{k:Nat}(a:k<ls.length):JM ls (k+1)=JM ls k++(if (ls.getD k M_).has then [] else [ZB (ls.getD k M_).cd (ls.getD k M_).tx]):=by
 have e:ls.take (k+1)=ls.take k++[ls.getD k M_]:=by
  rw[Gz a];simp only[List.getD,L9 a,jh]
 unfold JM;rw[e,uw,Rk];split<;>rfl
theorem mX(ls:List L4)(k:Nat):(JM ls k).length<=ls.length:=by
 unfold JM;rw[Cf];have:=lN (ls.take k);have:=List.length_take_le' k ls;omega
theorem a2g(ls:List L4)(c:Int)(t:BY):Pm ls c t=JM ls ls.length++[ZB c t]:=by
 unfold Pm JM;rw[Ns,Rk];rfl
open Go.RowKit
theorem QU(s:BY)(w:World)(h1:1<=s.size)(h16:s.size<=16000)(hw:Y2 ((x9 10 s.data.toList).getD 0 [])≠Gl/\Y2 ((x9 10 s.data.toList).getD 0 [])≠Bd/\Y2 ((x9 10 s.data.toList).getD 0 [])≠Oi/\Y2 ((x9 10 s.data.toList).getD 0 [])≠Eh/\Y2 ((x9 10 s.data.toList).getD 0 [])≠ah):
 Calls prog 70 #[.string s] w λe w'=>Is4 s.data.toList w' e/\Bw w w':=by
 have Q:Bw w ((w.alloc (.cells zE.toArray 74)).alloc (.cells zE.toArray 74)):=Y6.alloc E5 _;have I:s.data.toList.length=s.size:=E5;have X:Hid (s.data.toList≠[]):=λh=>by rw[h]at I;simp at I;omega
 have hse:(s.toList==[])=false:=by
  rw[ByteArray.toList_eq];exact V_.2 X.out
 have a6F:¬s.toList=[]:=by simpa using hse
 have a6G:decide (16000<(s.size:Int))=false:=Q8
 go_in
 go_wp2_with fail
 refine(YR s 10 _ O0).mono ?_;rintro e w1⟨⟨g2,cp,rfl,L,j⟩,N⟩;have H:((w.alloc (.cells zE.toArray 74)).alloc (.cells zE.toArray 74)).heap.size=w.heap.size+2:=E5;have b:Below (w.heap.size+2) ((w.alloc (.cells zE.toArray 74)).alloc (.cells zE.toArray 74)) w1:=N.mono E5;have a6c:w.heap.size+2<=g2:=by have h:=L;simp at h;omega
 have hz1:w.heap.size+2<=w1.heap.size:=by have h:=b.size;rw[H]at h;exact h
 have R:=((a_ w zE 74).below Y6 E5).below b O0;have D:=((jg w zE.toArray 74).below Y6 E5).below b O0;have S:=U6.below (by have h:=a_ (w.alloc (.cells zE.toArray 74)) zE 74;simp at h;exact h) b O0;have E:=H9.below (by have h:=jg (w.alloc (.cells zE.toArray 74)) zE.toArray 74;simp at h;exact h) b O0;have l:=Q.trans (b.mono O0);have q:=Zn 10 s.data.toList;have v:=Rh 10 s.data.toList;clear N L H b;obtain⟨m,x⟩:∃m,m=x9 10 s.data.toList:=⟨_,rfl⟩;rw[<- x]at j q v hw ⊢;have n:=U0 x.symm;have HCS:Hid (∀k,(m.getD k []).length<=16000):=λk=>I8 (v k) O0;obtain⟨F,hF⟩:∃F,F=m.getD 0 []:=⟨_,rfl⟩;have p:=U0 hF.symm;have hFl:F.length<=16000:=by rw[hF];exact HCS.out 0
 rw[<- hF]at hw;have a6d:=q.1;have a6z:m.length<=16001:=by have:=q.2;omega
 have c0:w1.cell? (aA g2 0)=some (vS (I4 F)):=by rw[hF];exact j.2 0 a6d
 have a6e:=j.1;clear hF x v q
 go_wp2_with fail
 refine(Ku F _ O0 1 O0 O0).mono ?_;rintro e d⟨⟨g3,cp3,rfl,hg3,u⟩,a⟩;have Z:=a.size;have bR:=U6.below R a O0;have Y:=H9.below D a O0;have bM:=U6.below S a O0;have oM:=H9.below E a O0;have hL3:=U0 (Bg j a);have hB3:=J5 l a;have d0:d.cell? (aA g3 0)=some (vS (I4 (Y2 F))):=u.2 0 (by simp[Q_]);have a6p:=u.1;have hrs:=Y8 F;have J:I4 (l_ F 1)=I4 (J3 F):=rfl;rw[J];clear J a R D S E j l u c0 Q;have hMz:w.heap.size+1<d.heap.size:=O0;have hRB:w.heap.size<w.heap.size+1:=O0;have a6q:w.heap.size+1<g3:=O0;have a6A:w.heap.size+1<g2:=O0;have a6f:g2<d.heap.size:=O0;clear hg3 a6e a6c hz1 Z;generalize w.heap.size+1=C at*;have r:Hid (uV s.data.toList Dj):=wR _ (by rw[n.out,p.out];exact hw.1) (by rw[n.out,p.out];exact hw.2.1) (by rw[n.out,p.out];exact hw.2.2.1) (by rw[n.out,p.out];exact hw.2.2.2.1) (by rw[n.out,p.out];exact hw.2.2.2.2);have n4:((I4 (Y2 F)).toList==[114,97,110])=false:=by
  rw[ByteArray.toList_eq,f_];exact V_.2 hw.1
 have m4:¬(I4 (Y2 F)).toList=[114,97,110]:=by simpa using n4
 have n1:((I4 (Y2 F)).toList==[101,112,111,99,104])=false:=by
  rw[ByteArray.toList_eq,f_];exact V_.2 hw.2.1
 have m1:¬(I4 (Y2 F)).toList=[101,112,111,99,104]:=by simpa using n1
 have n2:((I4 (Y2 F)).toList==[102,105,108,101])=false:=by
  rw[ByteArray.toList_eq,f_];exact V_.2 hw.2.2.1
 have m2:¬(I4 (Y2 F)).toList=[102,105,108,101]:=by simpa using n2
 have n3:((I4 (Y2 F)).toList==[100,114,111,112])=false:=by
  rw[ByteArray.toList_eq,f_];exact V_.2 hw.2.2.2.1
 have m3:¬(I4 (Y2 F)).toList=[100,114,111,112]:=by simpa using n3
 have n5:((I4 (Y2 F)).toList==[99,108,101,97,114])=false:=by
  rw[ByteArray.toList_eq,f_];exact V_.2 hw.2.2.2.2
 have m5:¬(I4 (Y2 F)).toList=[99,108,101,97,114]:=by simpa using n5
 clear hw;have A:U6 d C (Dj.c none 0):=bM;have U:=bR;have W:=Y;have P:=hB3;have hMU:=hMz;have O:w.heap.size<d.heap.size:=O0;have B:S9 d none Dj.ls:=.inl rfl;have K:=qL;have a6r:∀g o,(none:OA)=some (aA g o)->g≠w.heap.size:=λ_ _ h=>by cases h
 generalize I4 (Y2 F)=wd at*
 go_wp2_with(refine Ib (by rfl) 74 (.tmp 4) rfl C rfl ((Dj).c none 0) _ A underlying74 rfl Y1 ?_)
 refine(c22 (Dj) none 0 _ K B).mono ?_;rintro e U1⟨⟨i,rfl,hT⟩,f⟩;have HM1:=U6.below A f hMU;have t:=U6.below U f O;have V:=H9.below W f O;have l:=J5 P f;have a6s:=U7 B f;clear A U W B P f;by_cases he:i.data.toList=s.data.toList
 ·have z:=U0 (Oq r hT X he);have y:i.toList=s.toList:=by rw[ByteArray.toList_eq,ByteArray.toList_eq];exact he
  have e1:(i.toList==s.toList)=true:=by simpa using y
  clear hT r he
  go_wp2_with(first|refine yc rfl 74 (.tmp 4) rfl C rfl ((Dj).c none 0) _ HM1 underlying74 rfl Y1 ?_|refine G8 rfl 74 (.tmp 2) (.tmp 123) rfl w.heap.size 0 rfl ((Dj).c none 0) rfl (r_ t _ rfl) V (z_.fD _ _ _) Y1 rfl ?_)
  exact lK (Dj) none 0 true z (λh=>by cases h) K (Cm _ a6s a6r) rfl rfl rfl t l
 have z:=U0 (Jv r hT he);have y:¬i.toList=s.toList:=by rw[ByteArray.toList_eq,ByteArray.toList_eq];exact he
 have e1:(i.toList==s.toList)=false:=by simpa using y
 clear hT r he
 go_wp2_with(refine G8 rfl 74 (.tmp 2) (.tmp 122) rfl w.heap.size 0 rfl zE rfl (r_ t zE rfl) V (by simp[zE,Value.oneCell']) Y1 rfl ?_)
 exact Xk z rfl rfl rfl t l
theorem WE(s:BY)(w:World)(h1:1<=s.size)(h16:s.size<=16000)(hw:Y2 ((x9 10 s.data.toList).getD 0 [])=ah\/Y2 ((x9 10 s.data.toList).getD 0 [])=Eh\/Y2 ((x9 10 s.data.toList).getD 0 [])=Bd):
 Calls prog 70 #[.string s] w λe w'=>Is4 s.data.toList w' e/\Bw w w':=by
 have hB0:Bw w ((w.alloc (.cells zE.toArray 74)).alloc (.cells zE.toArray 74)):=Y6.alloc E5 _;have hsl:s.data.toList.length=s.size:=E5;have W:Hid (s.data.toList≠[]):=λh=>by rw[h]at hsl;simp at hsl;omega
 have hse:(s.toList==[])=false:=by
  rw[ByteArray.toList_eq];exact V_.2 W.out
 have a6F:¬s.toList=[]:=by simpa using hse
 have a6G:decide (16000<(s.size:Int))=false:=Q8
 go_in
 go_wp2_with fail
 refine(YR s 10 _ O0).mono ?_;rintro e w1⟨⟨g2,cp,rfl,hg2,P⟩,hb1⟩;have a5Y:((w.alloc (.cells zE.toArray 74)).alloc (.cells zE.toArray 74)).heap.size=w.heap.size+2:=E5;have H:Below (w.heap.size+2) ((w.alloc (.cells zE.toArray 74)).alloc (.cells zE.toArray 74)) w1:=hb1.mono E5;have a6c:w.heap.size+2<=g2:=by have h:=hg2;simp at h;omega
 have hz1:w.heap.size+2<=w1.heap.size:=by have h:=H.size;rw[a5Y]at h;exact h
 have bR1:=((a_ w zE 74).below Y6 E5).below H O0;have oR1:=((jg w zE.toArray 74).below Y6 E5).below H O0;have bM1:=U6.below (by have h:=a_ (w.alloc (.cells zE.toArray 74)) zE 74;simp at h;exact h) H O0;have oM1:=H9.below (by have h:=jg (w.alloc (.cells zE.toArray 74)) zE.toArray 74;simp at h;exact h) H O0;have l:=hB0.trans (H.mono O0);have V:=Zn 10 s.data.toList;have Y:=Rh 10 s.data.toList;clear hb1 hg2 a5Y H;obtain⟨R,Z⟩:∃R,R=x9 10 s.data.toList:=⟨_,rfl⟩;rw[<- Z]at P V Y hw ⊢;have HLS:=U0 Z.symm;have HCS:Hid (∀k,(R.getD k []).length<=16000):=λk=>I8 (Y k) O0;obtain⟨F,hF⟩:∃F,F=R.getD 0 []:=⟨_,rfl⟩;have HF:=U0 hF.symm;have hFl:F.length<=16000:=by rw[hF];exact HCS.out 0
 rw[<- hF]at hw;have a6d:=V.1;have a6z:R.length<=16001:=by have:=V.2;omega
 have c0:w1.cell? (aA g2 0)=some (vS (I4 F)):=by rw[hF];exact P.2 0 a6d
 have a6e:=P.1;clear hF Z Y V
 go_wp2_with fail
 refine(Ku F _ O0 1 O0 O0).mono ?_;rintro e b⟨⟨g3,cp3,rfl,hg3,X⟩,y⟩;have hz3:=y.size;have bR:=U6.below bR1 y O0;have J:=H9.below oR1 y O0;have r:=U6.below bM1 y O0;have u:=H9.below oM1 y O0;have hL3:=U0 (Bg P y);have K:=J5 l y;have d0:b.cell? (aA g3 0)=some (vS (I4 (Y2 F))):=X.2 0 (by simp[Q_]);have a6p:=X.1;have hrs:=Y8 F;have hrN:I4 (l_ F 1)=I4 (J3 F):=rfl;rw[hrN];clear hrN y bR1 oR1 bM1 oM1 P l X c0 hB0;have hMz:w.heap.size+1<b.heap.size:=O0;have hRB:w.heap.size<w.heap.size+1:=O0;have a6q:w.heap.size+1<g3:=O0;have a6A:w.heap.size+1<g2:=O0;have a6f:g2<b.heap.size:=O0;clear hg3 a6e a6c hz1 hz3;generalize w.heap.size+1=a at*;rcases hw with hw|hw|hw
 ·have i:=U0 (a3a (by rw[HLS.out];exact HF.out) hw);have HW:=U0 hw;have x:I4 (Y2 F)=⟨#[99,108,101,97,114]⟩:=by rw[hw];rfl
  rw[x]at d0;clear hw x;have k0:=r 0 _ rfl;have f0:=u 0;have p:U6 (b.setCell (aA a 0) (vI 5)) a ((Va).c none 0):=r.set 0 (vI 5) (by show 0<10;omega);have B:U6 (b.setCell (aA a 0) (vI 5)) w.heap.size zE:=bR.other _ _ (by show a≠w.heap.size;omega);have D:H9 (b.setCell (aA a 0) (vI 5)) w.heap.size:=J.set _ _;have A:Bw w (b.setCell (aA a 0) (vI 5)):=K.setCell (by show w.heap.size<=a;omega) _;have O:a<(b.setCell (aA a 0) (vI 5)).heap.size:=Q8;have z:w.heap.size<(b.setCell (aA a 0) (vI 5)).heap.size:=Q8;have q:S9 (b.setCell (aA a 0) (vI 5)) none (Va).ls:=.inl rfl;have v:(Va).le 1048576:=⟨J4 _,J4 _,⟨J4 _,J4 _,J4 _⟩,⟨J4 _,λ_=>⟨J4 _,J4 _⟩⟩,J4 _⟩;have Q:∀g o,(none:OA)=some (aA g o)->g≠w.heap.size:=λ_ _ h=>by cases h
  clear r u bR J K
  go_wp2_with(refine Ib (by rfl) 74 (.tmp 4) rfl a rfl ((Va).c none 0) _ p underlying74 rfl Y1 ?_)
  refine(c22 (Va) none 0 _ v q).mono ?_;rintro e U1⟨⟨f,rfl,hT⟩,d⟩;have S:=U6.below p d O;have j:=U6.below B d z;have C:=H9.below D d z;have l:=J5 A d;have U:=U7 q d;clear p B D q A d;by_cases he:f.data.toList=s.data.toList
  ·have n:=U0 (Oq i hT W he);have m:f.toList=s.toList:=by rw[ByteArray.toList_eq,ByteArray.toList_eq];exact he
   have e1:(f.toList==s.toList)=true:=by simpa using m
   clear hT i he
   go_wp2_with(first|refine yc rfl 74 (.tmp 4) rfl a rfl ((Va).c none 0) _ S underlying74 rfl Y1 ?_|refine G8 rfl 74 (.tmp 2) (.tmp 123) rfl w.heap.size 0 rfl ((Va).c none 0) rfl (r_ j _ rfl) C (z_.fD _ _ _) Y1 rfl ?_)
   exact lK (Va) none 0 true n (λh=>by cases h) v (Cm _ U Q) rfl rfl rfl j l
  have n:=U0 (Jv i hT he);have m:¬f.toList=s.toList:=by rw[ByteArray.toList_eq,ByteArray.toList_eq];exact he
  have e1:(f.toList==s.toList)=false:=by simpa using m
  clear hT i he
  go_wp2_with(refine G8 rfl 74 (.tmp 2) (.tmp 122) rfl w.heap.size 0 rfl zE rfl (r_ j zE rfl) C (by simp[zE,Value.oneCell']) Y1 rfl ?_)
  exact Xk n rfl rfl rfl j l
 ·have i:=U0 (a1u (by rw[HLS.out];exact HF.out) hw);have HW:=U0 hw;have x:I4 (Y2 F)=⟨#[100,114,111,112]⟩:=by rw[hw];rfl
  rw[x]at d0;clear hw x;have k0:=r 0 _ rfl;have f0:=u 0;have k2:=r 2 _ rfl;have f2:=u 2;have p:U6 ((b.setCell (aA a 0) (vI 3)).setCell (aA a 2) (vS (I4 (J3 F)))) a ((Ec (I4 (J3 F))).c none 0):=(r.set 0 (vI 3) (by show 0<10;omega)).set 2 (vS (I4 (J3 F))) (by show 2<10;omega);have B:U6 ((b.setCell (aA a 0) (vI 3)).setCell (aA a 2) (vS (I4 (J3 F)))) w.heap.size zE:=(bR.other _ _ (by show a≠w.heap.size;omega)).other _ _ (by show a≠w.heap.size;omega);have D:H9 ((b.setCell (aA a 0) (vI 3)).setCell (aA a 2) (vS (I4 (J3 F)))) w.heap.size:=(J.set _ _).set _ _;have A:Bw w ((b.setCell (aA a 0) (vI 3)).setCell (aA a 2) (vS (I4 (J3 F)))):=(K.setCell (by show w.heap.size<=a;omega) _).setCell (by show w.heap.size<=a;omega) _;have O:a<((b.setCell (aA a 0) (vI 3)).setCell (aA a 2) (vS (I4 (J3 F)))).heap.size:=Q8;have z:w.heap.size<((b.setCell (aA a 0) (vI 3)).setCell (aA a 2) (vS (I4 (J3 F)))).heap.size:=Q8;have q:S9 ((b.setCell (aA a 0) (vI 3)).setCell (aA a 2) (vS (I4 (J3 F)))) none (Ec (I4 (J3 F))).ls:=.inl rfl;have v:(Ec (I4 (J3 F))).le 1048576:=⟨by show(I4 (J3 F)).size<=1048576;rw[P5];omega,J4 _,⟨J4 _,J4 _,J4 _⟩,⟨J4 _,λ_=>⟨J4 _,J4 _⟩⟩,J4 _⟩;have Q:∀g o,(none:OA)=some (aA g o)->g≠w.heap.size:=λ_ _ h=>by cases h
  clear r u bR J K;generalize I4 (J3 F)=L at*
  go_wp2_with(refine Ib (by rfl) 74 (.tmp 4) rfl a rfl ((Ec L).c none 0) _ p underlying74 rfl Y1 ?_)
  refine(c22 (Ec L) none 0 _ v q).mono ?_;rintro e U1⟨⟨f,rfl,hT⟩,d⟩;have S:=U6.below p d O;have j:=U6.below B d z;have C:=H9.below D d z;have l:=J5 A d;have U:=U7 q d;clear p B D q A d;by_cases he:f.data.toList=s.data.toList
  ·have n:=U0 (Oq i hT W he);have m:f.toList=s.toList:=by rw[ByteArray.toList_eq,ByteArray.toList_eq];exact he
   have e1:(f.toList==s.toList)=true:=by simpa using m
   clear hT i he
   go_wp2_with(first|refine yc rfl 74 (.tmp 4) rfl a rfl ((Ec L).c none 0) _ S underlying74 rfl Y1 ?_|refine G8 rfl 74 (.tmp 2) (.tmp 123) rfl w.heap.size 0 rfl ((Ec L).c none 0) rfl (r_ j _ rfl) C (z_.fD _ _ _) Y1 rfl ?_)
   exact lK (Ec L) none 0 true n (λh=>by cases h) v (Cm _ U Q) rfl rfl rfl j l
  have n:=U0 (Jv i hT he);have m:¬f.toList=s.toList:=by rw[ByteArray.toList_eq,ByteArray.toList_eq];exact he
  have e1:(f.toList==s.toList)=false:=by simpa using m
  clear hT i he
  go_wp2_with(refine G8 rfl 74 (.tmp 2) (.tmp 122) rfl w.heap.size 0 rfl zE rfl (r_ j zE rfl) C (by simp[zE,Value.oneCell']) Y1 rfl ?_)
  exact Xk n rfl rfl rfl j l
 have i:=U0 (a2h (by rw[HLS.out];exact HF.out) hw);have HW:=U0 hw;have x:I4 (Y2 F)=⟨#[101,112,111,99,104]⟩:=by rw[hw];rfl
 rw[x]at d0;clear hw x;have k0:=r 0 _ rfl;have f0:=u 0
 go_wp2_with fail
 refine(a0S (I4 (J3 F)) _ (by rw[P5];omega)).mono ?_;rintro e t⟨rfl,I⟩;rw[f_];have E:(b.setCell (aA a 0) (vI 1)).heap.size=b.heap.size:=E5;have hz4:b.heap.size<=t.heap.size:=by have h:=I.size;rw[E]at h;exact h
 have bM4:=U6.below (r.set 0 (vI 1) (by show 0<10;omega)) I (by rw[E];exact hMz);have oM4:=H9.below (u.set (aA a 0) (vI 1)) I (by rw[E];exact hMz);have bR4:=U6.below (bR.other (aA a 0) (vI 1) (by show a≠w.heap.size;omega)) I (by rw[E];omega);have oR4:=H9.below (J.set (aA a 0) (vI 1)) I (by rw[E];omega);have hB4:=(K.setCell (by show w.heap.size<=a;omega) _).trans (I.mono (by rw[E];omega));have k1:=bM4 1 _ rfl;have f1:=oM4 1;have p:U6 (t.setCell (aA a 1) (vI (n29 (J3 F)))) a ((J9 (n29 (J3 F))).c none 0):=bM4.set 1 (vI (n29 (J3 F))) (by show 1<10;omega);have B:U6 (t.setCell (aA a 1) (vI (n29 (J3 F)))) w.heap.size zE:=bR4.other _ _ (by show a≠w.heap.size;omega);have D:H9 (t.setCell (aA a 1) (vI (n29 (J3 F)))) w.heap.size:=oR4.set _ _;have A:Bw w (t.setCell (aA a 1) (vI (n29 (J3 F)))):=hB4.setCell (by show w.heap.size<=a;omega) _;have O:a<(t.setCell (aA a 1) (vI (n29 (J3 F)))).heap.size:=Q8;have z:w.heap.size<(t.setCell (aA a 1) (vI (n29 (J3 F)))).heap.size:=Q8;have q:S9 (t.setCell (aA a 1) (vI (n29 (J3 F)))) none (J9 (n29 (J3 F))).ls:=.inl rfl;have v:(J9 (n29 (J3 F))).le 1048576:=⟨J4 _,J4 _,⟨J4 _,J4 _,J4 _⟩,⟨J4 _,λ_=>⟨J4 _,J4 _⟩⟩,J4 _⟩;have Q:∀g o,(none:OA)=some (aA g o)->g≠w.heap.size:=λ_ _ h=>by cases h
 clear I E r u bR J K bM4 oM4 bR4 oR4 hB4;generalize n29 (J3 F)=N at*
 go_wp2_with(refine Ib (by rfl) 74 (.tmp 4) rfl a rfl ((J9 N).c none 0) _ p underlying74 rfl Y1 ?_)
 refine(c22 (J9 N) none 0 _ v q).mono ?_;rintro e U1⟨⟨f,rfl,hT⟩,d⟩;have S:=U6.below p d O;have j:=U6.below B d z;have C:=H9.below D d z;have l:=J5 A d;have U:=U7 q d;clear p B D q A d;by_cases he:f.data.toList=s.data.toList
 ·have n:=U0 (Oq i hT W he);have m:f.toList=s.toList:=by rw[ByteArray.toList_eq,ByteArray.toList_eq];exact he
  have e1:(f.toList==s.toList)=true:=by simpa using m
  clear hT i he
  go_wp2_with(first|refine yc rfl 74 (.tmp 4) rfl a rfl ((J9 N).c none 0) _ S underlying74 rfl Y1 ?_|refine G8 rfl 74 (.tmp 2) (.tmp 123) rfl w.heap.size 0 rfl ((J9 N).c none 0) rfl (r_ j _ rfl) C (z_.fD _ _ _) Y1 rfl ?_)
  exact lK (J9 N) none 0 true n (λh=>by cases h) v (Cm _ U Q) rfl rfl rfl j l
 have n:=U0 (Jv i hT he);have m:¬f.toList=s.toList:=by rw[ByteArray.toList_eq,ByteArray.toList_eq];exact he
 have e1:(f.toList==s.toList)=false:=by simpa using m
 clear hT i he
 go_wp2_with(refine G8 rfl 74 (.tmp 2) (.tmp 122) rfl w.heap.size 0 rfl zE rfl (r_ j zE rfl) C (by simp[zE,Value.oneCell']) Y1 rfl ?_)
 exact Xk n rfl rfl rfl j l
theorem TM(s:BY)(w:World)(h1:1<=s.size)(a:s.size<=16000)(hw:Y2 ((x9 10 s.data.toList).getD 0 [])=ah):
 Calls prog 70 #[.string s] w λe w'=>Is4 s.data.toList w' e/\Bw w w':=WE s w h1 a (.inl hw)
theorem JU(s:BY)(w:World)(h1:1<=s.size)(a:s.size<=16000)(hw:Y2 ((x9 10 s.data.toList).getD 0 [])=Eh):
 Calls prog 70 #[.string s] w λe w'=>Is4 s.data.toList w' e/\Bw w w':=WE s w h1 a (.inr (.inl hw))
theorem yO(s:BY)(w:World)(h1:1<=s.size)(a:s.size<=16000)(hw:Y2 ((x9 10 s.data.toList).getD 0 [])=Bd):
 Calls prog 70 #[.string s] w λe w'=>Is4 s.data.toList w' e/\Bw w w':=WE s w h1 a (.inr (.inr hw))
