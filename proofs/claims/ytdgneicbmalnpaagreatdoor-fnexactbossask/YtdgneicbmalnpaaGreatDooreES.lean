import Derived.Test.YtdgneicbmalnpaaGreatDooreEO
set_option maxHeartbeats 0
set_option maxRecDepth 99999
set_option linter.all false
open Go.Value renaming slice->Sa,string->Sb,int->Sc,pointer->Sd
open Go.IntKind renaming i64->Se
open Go.Obj renaming cells->Sg
namespace Go.Proofs.YtdgneicbmalnpaaGreatDoor
open Proofs.Tryz Go.RowKit
theorem DC:Inf prog 9 1:=Jc Y0
theorem xQ:Inf prog 179 3:=Jc Y0
theorem a1T:Inf prog 235 3:=Jc Y0
variable{w u u':World}{base size n A k:Nat}{e t:TypeId}{v tv rv:Value}{xs vs:List Value}
theorem Oh{B:Nat}(h:B=w.heap.size):Cl (w.alloc (Sg xs.toArray t)) B t xs:=h▸I4 w xs t
theorem H9(h:w.ownsRow base e size v n xs):∃a c,v=Sa a n c:=by
 rcases h.2 with⟨rfl,rfl⟩|⟨g,cap,cur,rfl,_⟩
 ·exact⟨_,_,rfl⟩
 exact⟨_,_,rfl⟩
theorem rJ(h:w.ownsRow base e size v n xs)(a:v.ownBlock≠none):∃g c,v=Sa (some ⟨g,0,none⟩) n c:=by
 rcases h.2 with⟨rfl,rfl⟩|⟨g,cap,cur,rfl,_⟩
 ·exact absurd rfl a
 exact⟨_,_,rfl⟩
theorem Ib{B:Nat}(h:Below B w u)(g:u.grownBy u' v.ownBlock)(hz:B<=u.heap.size)(hv:∀k,v.ownBlock=some k->B<=k):Below B w u':=
 ⟨g.os.trans h.os,g.tape.trans h.tape,g.output.trans h.output,X7 h.size g.size,λk hk=>(g.block k O0 (λe=>by have:=hv k e.symm;omega)).trans (h.block k hk)⟩
theorem row0(w:World)(e:TypeId)(size:Nat){B:Nat}(hB:B=w.heap.size)(a:base<=B):(w.alloc (Sg #[] e)).ownsRow base e size (Sa (some ⟨B,0,none⟩) 0 0) 0 []:=by
 subst hB;exact⟨J4,.inr ⟨w.heap.size,0,#[],rfl,a,heap_alloc_new w _,Y7 _,U5,J4,J4⟩⟩
theorem wM(h:w.ownsRow base e size v n xs)(a:∀g,v.ownBlock=some g->u.heap[g]?=w.heap[g]?):Src u v size n xs:=by
 have hl:=h.1;rcases h.2 with⟨rfl,rfl⟩|⟨g,cap,cur,rfl,hb,c,hnc,hcm,hcs,b⟩
 ·exact .inl ⟨⟨_,rfl⟩,rfl,Xb.1 (by rw[hl,Gw])⟩
 refine .inr ⟨⟨g,0,none⟩,cap,rfl,hl,λj x e=>?_⟩;rw[<- b,ny]at e;split at e;rotate_left
 ·cases e
 rw[qo,Lib.cell_of_heap ((a g rfl).trans c)];simpa using e
theorem Df(h:w.ownsRow base e size v n xs){j:Nat}{x:Value}(hx:xs[j]?=some x):∃g c,v=Sa (some ⟨g,0,none⟩) n c/\g<w.heap.size/\w.cell? ⟨g,j,none⟩=some x:=by
 have hl:=h.1;rcases h.2 with⟨rfl,rfl⟩|⟨g,cap,cur,rfl,hb,a,hnc,hcm,hcs,b⟩
 ·rw[Xb.1 (show xs.length=0 by rw[hl,Gw])]at hx;cases hx
 refine⟨g,cap,rfl,(Ya.1 a).1,?_⟩;rw[<- b,ny]at hx;split at hx;rotate_left
 ·cases hx
 rw[Lib.cell_of_heap a];simpa using hx
theorem a1o{rs:List R3}(h:Bg w base v rs vs)(hk:k<rs.length):∃g c a d,v=Sa (some ⟨g,0,none⟩) rs.length c/\g<w.heap.size/\vs.getD k undef=.slice a (rs.getD k d_).gs.length d/\w.cell? ⟨g,k*3,none⟩=some (Sb (rs.getD k d_).key)/\w.cell? ⟨g,k*3+1,none⟩=some (.slice a (rs.getD k d_).gs.length d)/\w.cell? ⟨g,k*3+2,none⟩=some (Sb (rs.getD k d_).o)/\w.ownsRow base 235 3 (.slice a (rs.getD k d_).gs.length d) (rs.getD k d_).gs.length (gC (rs.getD k d_).gs):=by
 obtain⟨j,a1,a2⟩:=a0j rs vs k hk;obtain⟨a,d,hv,hr⟩:=h.gl k hk;rw[hv]at a1;obtain⟨g,c,rfl,f,e0⟩:=Df h.row j;obtain⟨_,_,e,_,e1⟩:=Df h.row a1;obtain⟨_,_,b,_,i⟩:=Df h.row a2;injection e with e;injection e with e;injection e with e;injection b with b;injection b with b;injection b with b;subst e b;exact⟨g,c,a,d,rfl,f,hv,e0,e1,i,hr⟩
structure C7(w:World)(A:Nat)(s:St)(tv rv tv' v2:Value)(P:List R3)(vs:List Value)(u:World):Prop where
 b:Below w.heap.size w u
 h0:Cl u w.heap.size 43 [Sc Se s.wd,tv,rv]
 h1:Cl u (w.heap.size+1) 43 [Sc Se 0,Sa none 0 0,Sa none 0 0]
 ha:Cl u A 43 [Sc Se s.wd,tv',v2]
 hA:w.heap.size+2<=A
 ht:u.ownsRow (w.heap.size+2) 9 1 tv' s.ts.length (s.ts.map Sb)
 hr:Bg u (w.heap.size+2) v2 P vs
theorem C7.below{s:St}{tv' v2:Value}{P:List R3}(h:C7 w A s tv rv tv' v2 P vs u)(a:Below u.heap.size u u'):C7 w A s tv rv tv' v2 P vs u':=
 ⟨h.b.trans (a.mono h.b.size),h.h0.below a h.h0.lt,h.h1.below a h.h1.lt,h.ha.below a h.ha.lt,h.hA,own_below h.ht a,h.hr.keep (λq t hT _ _=>a.block q (Ld hT))⟩
theorem I_{B:Nat}(h:Cl w B t xs):oh w B t:=⟨_,_,h⟩
theorem C7.make{s:St}{tv':Value}{W y z:World}(d:Below w.heap.size w W)(h0:Cl W w.heap.size 43 [Sc Se s.wd,tv,rv])(h1:Cl W (w.heap.size+1) 43 [Sc Se 0,Sa none 0 0,Sa none 0 0])(hz:W.heap.size=w.heap.size+2)(c:Below W.heap.size W y)(hA:w.heap.size+2<=A)(ht:y.ownsRow (w.heap.size+2) 9 1 tv' s.ts.length (s.ts.map Sb))(ho:Jr A y z)(hc:Cl y A 43 xs)(b:Cl z A 43 [Sc Se s.wd,tv',Sa none 0 0]):C7 w A s tv rv tv' (Sa none 0 0) [] [] z:=
 have hB:Below (w.heap.size+2) W z:=(hz▸c).trans (ho.below hA)
 ⟨d.trans (hB.mono O0),h0.below hB O0,h1.below hB O0,b,hA,Z4 ht (λq a=>ho.block q (λe=>absurd (N8 (I_ hc) (e▸X6 ht a)) U5)),⟨rfl,M_ _ _ _ _,λi h=>absurd h (U8 _),λi j h=>absurd h (U8 _)⟩⟩
theorem C7.app{s:St}{tv' v2 f:Value}{P:List R3}{y:R3}{g Z d:World}{r:OA}{n:Nat}(h:C7 w A s tv rv tv' v2 P vs u)(D:Below u.heap.size u g)(k:g.ownsRow (u.heap.size+1) 235 3 (Sa r y.gs.length n) y.gs.length (gC y.gs))(m:Below g.heap.size g Z)(x:d.ownsRow (w.heap.size+2) 179 3 f (P.length+1) (rC P vs++[Sb y.key,Sa r y.gs.length n,Sb y.o]))(v:Z.grownBy d v2.ownBlock):
 C7 w A s tv rv tv' f (P++[y]) (vs++[Sa r y.gs.length n]) (d.setCell ⟨A,2,none⟩ f)/\Cl d A 43 [Sc Se s.wd,tv',v2]:=by
 have i:=E5 D m;have c:=h.below i;have hu:=h.b.size;have ha:=h.ha.lt;have hA:=h.hA;have C:=Ib (O4 (w.heap.size+2) Z) v (by have:=i.size;omega) (λj e=>X4 h.hr.row e);have kp:∀q t,oh Z q t->t≠179->d.heap[q]?=Z.heap[q]?:=λq t hT ht=>v.block q (Ld hT) (λe=>ht (N8 hT (X6 c.hr.row e.symm)));have o:Cl d A 43 [Sc Se s.wd,tv',v2]:=(kp A 43 (I_ c.ha) U5).trans c.ha;have hs:=u_ d A 2 f;have p:=C.trans (hs.below hA);have l:∀q t,oh Z q t->t≠179->t≠43->(d.setCell ⟨A,2,none⟩ f).heap[q]?=Z.heap[q]?:=λq t hT h1 h2=>(hs.block q (λe=>h2 (N8 (e▸hT) (I_ c.ha)))).trans (kp q t hT h1);refine⟨⟨c.b.trans (p.mono O0),c.h0.below p O0,c.h1.below p O0,o.set 2 f,hA,Z4 c.ht (λq a=>l q 9 (X6 c.ht a) U5 U5),?_⟩,o⟩;have B:=Z4 x (λq a=>hs.block q (λe=>absurd (N8 (I_ o) (e▸X6 x a)) U5));have z:=Z4 (own_below k m) (λq a=>l q 235 (X6 (own_below k m) a) U5 U5);exact SI h.hr (I7 z O0) B (λq a=>(l q 235 (a.below i (Ld a)) U5 U5).trans (i.block q (Ld a))) (λq a=>by have:=X4 k a;omega)
theorem Oe(ts:LB):∀v∈ts.map Sb,v.oneCell'=true:=λv hv=>by
 obtain⟨x,_,rfl⟩:=Rh.1 hv;rfl
theorem own_ne{v:Value}{q n c k:Nat}(h:v.ownBlock=(Sa (some ⟨q,0,none⟩) n c).ownBlock\/v.ownBlock=some k):v.ownBlock≠none:=by
 rcases h with h|h<;>rw[h]<;>exact λe=>nomatch e
theorem WO{X j:Nat}{y:Value}(h:w.ownsRow base e size v n xs)(hv:v.ownBlock≠some X):(w.setCell ⟨X,j,none⟩ y).ownsRow base e size v n xs:=Z4 h (λq a=>(u_ w X j y).block q (λe=>hv (e▸a)))
theorem a4c{base':Nat}{rs:List R3}(h:Bg w base v rs vs)(a:base'<=base):Bg w base' v rs vs:=⟨h.len,I7 h.row a,λi b=>(by obtain⟨d,c3,e,c⟩:=h.gl i b;exact⟨d,c3,e,I7 c a⟩),h.apart⟩
theorem qV{P rs:List R3}(h:P <+:rs)(hl:P.length<rs.length):P++[rs.getD P.length d_] <+:rs:=by
 obtain⟨t,rfl⟩:=h
 cases t with
 | nil=>simp at hl
 | cons x r=>exact⟨r,by simp[List.getD]⟩
theorem a3R(s:St)(ta ra:OA)(tc rc:Nat)(w:World)(htl:s.ts.length<=1048576)(hrl:s.rs.length<=1048576)(hgl:∀i,(s.rs.getD i d_).gs.length<=1048576)(ht:∀u,Below w.heap.size w u->Src u (Sa ta s.ts.length tc) 1 s.ts.length (s.ts.map Sb))
 (hr:∀u,Below w.heap.size w u->∀k,k<s.rs.length->∃g o a d,ra=some ⟨g,o,none⟩/\g<u.heap.size/\u.cell? ⟨g,o+k*3,none⟩=some (Sb (s.rs.getD k d_).key)/\u.cell? ⟨g,o+k*3+1,none⟩=some (.slice a (s.rs.getD k d_).gs.length d)/\u.cell? ⟨g,o+k*3+2,none⟩=some (Sb (s.rs.getD k d_).o)/\∀z,Below u.heap.size u z->Src z (.slice a (s.rs.getD k d_).gs.length d) 3 (s.rs.getD k d_).gs.length (gC (s.rs.getD k d_).gs)):
 Calls prog 69 #[.agg #[Sc Se s.wd,Sa ta s.ts.length tc,Sa ra s.rs.length rc]] w λe w'=>(∃g c ra rc,e=.returned (.agg #[Sc Se s.wd,Sa (some ⟨g,0,none⟩) s.ts.length c,Sa ra s.rs.length rc])/\W_ w' w.heap.size s.ts s.rs (Sa (some ⟨g,0,none⟩) s.ts.length c) (Sa ra s.rs.length rc))/\Below w.heap.size w w':=by
 have HT:=U0 ht;have HRR:=U0 hr;clear ht hr;have HGL:=U0 hgl;clear hgl
 go_in
 go_upto_region 1 with fail
 obtain⟨W,R⟩:∃W:World,W=(w.alloc (Sg #[Sc Se s.wd,Sa ta s.ts.length tc,Sa ra s.rs.length rc] 43)).alloc (Sg #[Sc Se 0,Sa none 0 0,Sa none 0 0] 43):=⟨_,rfl⟩;rw[<- R];have bW:Below w.heap.size w W:=by rw[R];exact U6.alloc J4 _
 have H0:Hid (Cl W w.heap.size 43 [Sc Se s.wd,Sa ta s.ts.length tc,Sa ra s.rs.length rc]):=by show Cl _ _ _ _;rw[R];exact E8 (I4 w [_,_,_] 43) _
 have H1:Hid (Cl W (w.heap.size+1) 43 [Sc Se 0,Sa none 0 0,Sa none 0 0]):=by show Cl _ _ _ _;rw[R];exact Oh (xs:=[_,_,_]) J4
 have E:Hid (W.heap.size=w.heap.size+2):=by show _=_;rw[R];simp
 have x:Hid (∀y,Below W.heap.size W y->y.cell? ⟨w.heap.size,0,none⟩=some (Sc Se s.wd)/\y.cell? ⟨w.heap.size,1,none⟩=some (Sa ta s.ts.length tc)):=λy f=>have h:=H0.o.below f H0.o.lt;⟨h.cell 0,h.cell 1⟩
 have HR:Hid (∀y,Below W.heap.size W y->Src y (Sa ta s.ts.length tc) 1 s.ts.length (s.ts.map Sb)):=λy f=>HT.o y (E5 bW f);clear R
 go_cut[3] from 3 (λs3 wx=>∃A g c,s3=Sd (some ⟨A,0,none⟩)/\Hid (C7 w A s (Sa ta s.ts.length tc) (Sa ra s.rs.length rc) (Sa (some ⟨g,0,none⟩) s.ts.length c) (Sa none 0 0) [] [] wx))
 case first=>
  have hbd:Below W.heap.size W W.drew:=(O4 _ _).drew;have HM:Hid (∀(A:Nat)(tv':Value)(y z:World),Below W.heap.size W y->w.heap.size+2<=A->y.ownsRow (w.heap.size+2) 9 1 tv' s.ts.length (s.ts.map Sb)->Jr A y z->Cl y A 43 [Sc Se 0,Sa none 0 0,Sa none 0 0]->Cl z A 43 [Sc Se s.wd,tv',Sa none 0 0]->C7 w A s (Sa ta s.ts.length tc) (Sa ra s.rs.length rc) tv' (Sa none 0 0) [] [] z):=λA tv' y z h1 h2 h3 h4 h5 J=>C7.make bW H0.o H1.o E.o h1 h2 h3 h4 h5 J;refine mG x hbd Y0 λhH=>?_;refine tq 0 hH ?_;refine tq 1 hH ?_;refine tq 3 hH ?_;refine y_ 4 ?_;have hz2:=Vf E.o.symm;refine wpAnyH_ready (rs:=[2,7]) Y0 J4 (AllReadyH.cons (o:=⟨some 8,.buildSlice 22 0 #[],22,_,_,none⟩) rfl (λK l=>?_) (AllReadyH.cons (o:=⟨some 3,.alloc 43,0,_,_,none⟩) rfl (λK l=>?_) AllReadyH.nil))
  focus
   go_simp;obtain⟨y,f⟩:∃q:World,q=(W.alloc (Sg #[] 9)).drew:=⟨_,rfl⟩;rw[<- f];have r:Below W.heap.size W y:=by rw[f];exact U6.drew
   have R1:Hid (y.ownsRow (w.heap.size+2) 9 1 (Sa (some ⟨W.heap.size,0,none⟩) 0 0) 0 []):=by show World.ownsRow _ _ _ _ _ _ _;rw[f];exact row0 W 9 1 rfl hz2
   clear f;refine G9 l (x.o _ r) λhH=>?_;clear l K;refine wpAnyH_ready (rs:=[5,7]) Y0 J4 (AllReadyH.cons (o:=⟨some 11,.call ⟨.builtin .append,#[.tmp 8,.tmp 10],#[22,22]⟩,22,_,_,none⟩) rfl (λK l=>?_) (AllReadyH.cons (o:=⟨some 3,.alloc 43,0,_,_,none⟩) rfl (λK l=>?_) AllReadyH.nil))
   ·refine Ob rfl _ _ 22 rfl (w.heap.size+2) 9 1 underlying22 DC U5 (Sa (some ⟨W.heap.size,0,none⟩) 0 0) 0 [] rfl R1.o _ s.ts.length (s.ts.map Sb) rfl (HR.o _ r) (Oe _) O0 (by have:=r.size;omega) ?_;intro v O m B I;rw[Y8,Y9]at m;obtain⟨g,c,rfl⟩:=rJ m (own_ne I);have X:=Ib (O4 (w.heap.size+2) _) B (by have:=r.size;omega) (λj e=>X4 R1.o e);have p:=r.trans (E.o.symm▸X);have OV:=U0 m;have gq:=B;clear m B I;refine G9 l (x.o _ p) λhH=>?_;clear l K;refine sq ?_;refine rq 7 λK l=>?_;go_simp;obtain⟨y3,f⟩:∃q:World,q=O.alloc (Sg #[Sc Se 0,Sa none 0 0,Sa none 0 0] 43):=⟨_,rfl⟩;have b3:Below W.heap.size W y3:=by rw[f];exact p.alloc p.size _
    have n:Hid (Cl y3 O.heap.size 43 [Sc Se 0,Sa none 0 0,Sa none 0 0]):=by show Cl _ _ _ _;rw[f];exact I4 _ [_,_,_] 43
    rw[<- f];have O3:=U0 (own_below OV.o (u':=y3) (by rw[f];exact U6));clear f;refine G9 l (x.o _ b3) λhH=>?_;clear l K;refine rq 8 λK l=>?_;refine qc rfl 43 _ _ rfl (j:=0) rfl rfl n.o A8 (by simp[Value.oneCell']) Y0 ?_;intro z L D;have hz8:=U0 (HM.o _ _ _ _ b3 (by have:=p.size;omega) O3.o D n.o L);refine G9 l (x.o _ (b3.trans (D.below (by have:=r.size;have:=p.size;omega)))) λhH=>?_;clear l K;refine wdn ?_
    go_wp2_with fail
    go_meet
    exact⟨_,_,_,rfl,hz8⟩
   go_simp;obtain⟨Q,f⟩:∃q:World,q=y.alloc (Sg #[Sc Se 0,Sa none 0 0,Sa none 0 0] 43):=⟨_,rfl⟩;have C:Below W.heap.size W Q:=by rw[f];exact r.alloc r.size _
   have n:Hid (Cl Q y.heap.size 43 [Sc Se 0,Sa none 0 0,Sa none 0 0]):=by show Cl _ _ _ _;rw[f];exact I4 _ [_,_,_] 43
   rw[<- f];have N:=U0 (own_below R1.o (u':=Q) (by rw[f];exact U6));clear f;refine G9 l (x.o _ C) λhH=>?_;clear l K;refine rq 5 λK l=>?_;refine Ob rfl _ _ 22 rfl (w.heap.size+2) 9 1 underlying22 DC U5 (Sa (some ⟨W.heap.size,0,none⟩) 0 0) 0 [] rfl N.o _ s.ts.length (s.ts.map Sb) rfl (HR.o _ C) (Oe _) O0 (by have:=C.size;omega) ?_;intro v O m B I;rw[Y8,Y9]at m;obtain⟨g,c,rfl⟩:=rJ m (own_ne I);have X:=Ib (O4 (w.heap.size+2) _) B (by have:=C.size;omega) (λj e=>X4 N.o e);have p:=C.trans (E.o.symm▸X);have OV:=U0 m;have gq:=B;clear m B I;refine G9 l (x.o _ p) λhH=>?_;clear l K;refine sq ?_;have CV:Hid (Cl O y.heap.size 43 [Sc Se 0,Sa none 0 0,Sa none 0 0]):=(gq.block _ n.o.lt (λe=>absurd (N8 (I_ n.o) (X6 N.o e.symm)) U5)).trans n.o;refine rq 8 λK l=>?_;refine qc rfl 43 _ _ rfl (j:=0) rfl rfl CV.o A8 (by simp[Value.oneCell']) Y0 ?_;intro z L D;have hz8:=U0 (HM.o _ _ _ _ p (by have:=r.size;omega) OV.o D CV.o L)
  rotate_left
  focus
   go_simp;obtain⟨y,f⟩:∃q:World,q=(W.alloc (Sg #[Sc Se 0,Sa none 0 0,Sa none 0 0] 43)).drew:=⟨_,rfl⟩;have r:Below W.heap.size W y:=by rw[f];exact U6.drew
   have n:Hid (Cl y W.heap.size 43 [Sc Se 0,Sa none 0 0,Sa none 0 0]):=by show Cl _ _ _ _;rw[f];exact I4 _ [_,_,_] 43
   rw[<- f];have hys:=n.o.lt;clear f;refine G9 l (x.o _ r) λhH=>?_;clear l K;refine rq 2 λK l=>?_;go_simp;obtain⟨Q,f⟩:∃q:World,q=y.alloc (Sg #[] 9):=⟨_,rfl⟩;rw[<- f];have hbb:Below y.heap.size y Q:=by rw[f];exact U6
   have C:=E5 r hbb;have N:Hid (Q.ownsRow (w.heap.size+2) 9 1 (Sa (some ⟨y.heap.size,0,none⟩) 0 0) 0 []):=by show World.ownsRow _ _ _ _ _ _ _;rw[f];exact row0 y 9 1 rfl O0
   have n:=U0 (n.o.below hbb n.o.lt);clear f;refine G9 l (x.o _ C) λhH=>?_;clear l K;refine rq 5 λK l=>?_;refine Ob rfl _ _ 22 rfl (w.heap.size+2) 9 1 underlying22 DC U5 (Sa (some ⟨y.heap.size,0,none⟩) 0 0) 0 [] rfl N.o _ s.ts.length (s.ts.map Sb) rfl (HR.o _ C) (Oe _) O0 (by have:=C.size;omega) ?_;intro v O m B I;rw[Y8,Y9]at m;obtain⟨g,c,rfl⟩:=rJ m (own_ne I);have X:=Ib (O4 (w.heap.size+2) _) B (by have:=C.size;omega) (λj e=>X4 N.o e);have p:=C.trans (E.o.symm▸X);have OV:=U0 m;have gq:=B;clear m B I;refine G9 l (x.o _ p) λhH=>?_;clear l K;refine sq ?_;have CV:Hid (Cl O W.heap.size 43 [Sc Se 0,Sa none 0 0,Sa none 0 0]):=(gq.block _ n.o.lt (λe=>absurd (N8 (I_ n.o) (X6 N.o e.symm)) U5)).trans n.o;refine rq 8 λK l=>?_;refine qc rfl 43 _ _ rfl (j:=0) rfl rfl CV.o A8 (by simp[Value.oneCell']) Y0 ?_;intro z L D;have hz8:=U0 (HM.o _ _ _ _ p hz2 OV.o D CV.o L)
  all_goals
   refine G9 l (x.o _ (p.trans (D.below (by have:=r.size;have:=p.size;omega)))) λhH=>?_;clear l K;refine wdn ?_
   go_wp2_with fail
   go_meet
   exact⟨_,_,_,rfl,hz8⟩
 obtain⟨A,g,c,rfl,HC⟩:=hcut;clear x HR H0 H1 E bW;go_wp2;go_loopw[4] (λi wr=>∃(P:List R3)(v2:Value)(vs:List Value),i=Sc Se P.length/\P.length<=s.rs.length/\Hid (P <+:s.rs)/\Hid (C7 w A s (Sa ta s.ts.length tc) (Sa ra s.rs.length rc) (Sa (some ⟨g,0,none⟩) s.ts.length c) v2 P vs wr)) (λi _=>s.rs.length-(RowKit.intOf i).toNat);exact⟨[],_,_,rfl,Y4 _,List.nil_prefix,HC⟩;obtain⟨P,v2,vs,rfl,hk,hP,H⟩:=hrel;obtain⟨a2,c2,rfl⟩:=H9 H.o.hr.row;have d0:=H.o.h0.cell 2;have k0:=H.o.ha.cell 0;have k1:=H.o.ha.cell 1;have k2:=H.o.ha.cell 2;simp only[gz]at d0 k0 k1 k2;by_cases hlt:P.length<s.rs.length;rotate_left
 ·have hPe:=List.IsPrefix.eq_of_length hP.o O0;subst hPe
  go_wp2_with(refine N7 rfl 43 _ _ rfl (j:=0) rfl rfl H.o.h1 A8 (by simp[Value.oneCell']) Y0 ?_;intro z L D)
  have kz:∀q t,oh wr q t->t≠43->z.heap[q]?=wr.heap[q]?:=λq t hT h=>D.block q (λe=>h (N8 (e▸hT) (I_ H.o.h1)));exact P7 (v:=.agg #[Sc Se s.wd,Sa (some ⟨g,0,none⟩) s.ts.length c,Sa a2 s.rs.length c2]) (l7 (P:=prog) (ty:=43) rfl _ z (w.heap.size+1) [Sc Se s.wd,Sa (some ⟨g,0,none⟩) s.ts.length c,Sa a2 s.rs.length c2] _ rfl L.blk underlying43 rfl Y0) rfl ⟨⟨_,_,_,_,rfl,I7 (Z4 H.o.ht (λq hq=>kz q 9 (X6 H.o.ht hq) U5)) O0,vs,a4c (H.o.hr.keep (λq t hT ht _=>kz q t hT (by rcases ht with rfl|rfl<;>decide))) O0⟩,H.o.b.trans (D.below O0)⟩
 obtain⟨g5,o5,ga,gd,rfl,hg5,e0,e1,e2,hgr⟩:=HRR.o wr H.o.b P.length hlt;have hn:=HGL.o P.length;have HPY:=U0 (qV hP.o hlt);generalize s.rs.getD P.length d_=y at*;have HGR:=U0 hgr;clear hgr hP HRR;obtain⟨Y,V⟩:∃Y:World,Y=(wr.alloc (Sg #[Sb y.key,Sa ga y.gs.length gd,Sb y.o] 179)).alloc (Sg #[] 235):=⟨_,rfl⟩;have bY:Below wr.heap.size wr Y:=by rw[V];exact U6.alloc J4 _
 have CX:Hid (Cl Y wr.heap.size 179 [Sb y.key,Sa ga y.gs.length gd,Sb y.o]):=by show Cl _ _ _ _;rw[V];exact E8 (I4 wr [_,_,_] 179) _
 have RX:Hid (Y.ownsRow (wr.heap.size+1) 235 3 (Sa (some ⟨wr.heap.size+1,0,none⟩) 0 0) 0 []):=by show World.ownsRow _ _ _ _ _ _ _;rw[V];exact row0 _ 235 3 J4 A8
 have SX:=U0 (HGR.o Y bY);have hYs:=CX.o.lt
 go_upto_region 7 with(at_builtin;rw[<- V];refine Lc rfl _ _ 177 rfl (wr.heap.size+1) 235 3 underlying177 a1T U5 (Sa (some ⟨wr.heap.size+1,0,none⟩) 0 0) 0 [] rfl RX.o _ y.gs.length (gC y.gs) rfl SX.o (wV y.gs) O0 O0 ?_;intro v5 y5 O5 gw _;rw[Y8,Y9]at O5;obtain⟨U,S,rfl⟩:=H9 O5;have b5:=Ib (O4 (wr.heap.size+1) Y) gw O0 (λj e=>X4 RX.o e);have C5:=CX.o.below b5 O0;have n1:=C5.cell 1;have nf:=C5.opn 1;simp only[gz]at n1;clear gw)
 obtain⟨F,J⟩:∃q:World,q=y5.setCell ⟨wr.heap.size,1,none⟩ (Sa U y.gs.length S):=⟨_,rfl⟩;rw[<- J];have b6:Below wr.heap.size wr F:=by rw[J];exact(bY.trans (b5.mono O0)).setCell A8 _
 have C6:Hid (Cl F wr.heap.size 179 [Sb y.key,Sa U y.gs.length S,Sb y.o]):=by show Cl _ _ _ _;rw[J];exact C5.set 1 _
 have R6:Hid (F.ownsRow (wr.heap.size+1) 235 3 (Sa U y.gs.length S) y.gs.length (gC y.gs)):=by show World.ownsRow _ _ _ _ _ _ _;rw[J];exact WO O5 (λe=>by have:=X4 O5 e;omega)
 have H6:=U0 (H.o.below b6);clear J n1 nf C5 O5 b5 SX RX CX hYs bY V d0 k0 k1 k2 e0 e1 e2;have k2:=H6.o.ha.cell 2;have x0:=C6.o.cell 0;have x1:=C6.o.cell 1;have x2:=C6.o.cell 2;simp only[gz]at k2 x0 x1 x2;obtain⟨Z,hZ⟩:∃q:World,q=F.alloc (Sg #[Sb y.key,Sa U y.gs.length S,Sb y.o] 179):=⟨_,rfl⟩;have bZ:Below F.heap.size F Z:=by rw[hZ];exact U6
 have CZ:Hid (Cl Z F.heap.size 179 [Sb y.key,Sa U y.gs.length S,Sb y.o]):=by show Cl _ _ _ _;rw[hZ];exact I4 _ [_,_,_] 179
 have E:=U0 (H6.o.below bZ);have hb0:w.heap.size+2<=Z.heap.size:=by have:=E.o.ha.lt;have:=E.o.hA;omega
 go_wp2_with(at_builtin;rw[<- hZ];refine Lc rfl _ _ 41 rfl (w.heap.size+2) 179 3 underlying41 xQ U5 (Sa a2 P.length c2) P.length (rC P vs) rfl E.o.hr.row _ 1 [Sb y.key,Sa U y.gs.length S,Sb y.o] rfl (.inr ⟨⟨F.heap.size,0,none⟩,1,rfl,rfl,yh CZ.o⟩) (by simp[Value.oneCell']) O0 hb0 ?_;intro v7 y7 O7 g7 _;obtain⟨a7,a3q,rfl⟩:=H9 O7;obtain⟨hN,hN2⟩:=H.o.app b6 R6.o bZ O7 g7;have m1:=hN2.cell 2;have m2:=hN2.opn 2;simp only[gz]at m1;have HN:=U0 hN;clear O7 g7 hN hN2)
 go_roundw;exact⟨P++[y],_,_,by rw[Q9];go_num,by rw[Q9];simp;omega,HPY,HN⟩;exact V9
theorem c69(s:St)(b0:Nat)(tv rv:Value)(w:World)(htl:s.ts.length<=1000)(hrl:s.rs.length<=1000)(l:∀i,(s.rs.getD i d_).gs.length<=1000)(a:W_ w b0 s.ts s.rs tv rv):
 Calls prog 69 #[.agg #[Sc Se s.wd,tv,rv]] w λe w'=>(∃g c ra rc,e=.returned (.agg #[Sc Se s.wd,Sa (some ⟨g,0,none⟩) s.ts.length c,Sa ra s.rs.length rc])/\W_ w' w.heap.size s.ts s.rs (Sa (some ⟨g,0,none⟩) s.ts.length c) (Sa ra s.rs.length rc))/\Below w.heap.size w w':=by
 obtain⟨ta,tc,rfl⟩:=H9 a.1;obtain⟨ra,rc,rfl⟩:=H9 a.2.choose_spec.row;refine a3R s ta ra tc rc w O0 O0 (λi=>X7 (l i) U5) (λu b=>wM a.1 (λg n=>b.block g (o_ a.1 n))) λu b k hk=>?_;obtain⟨_,vs0,h⟩:=Oy a b;obtain⟨g5,c61,p,o,f,m,_,e0,e1,r,d⟩:=a1o h hk;injection f with h1;exact⟨g5,0,p,o,h1,m,by rw[Y8];exact e0,by rw[Y8];exact e1,by rw[Y8];exact r,λz hz=>wM d (λq j=>hz.block q (o_ d j))⟩
end Go.Proofs.YtdgneicbmalnpaaGreatDoor
namespace Go.Proofs.YtdgneicbmalnpaaGreatDoor
open Proofs.Tryz Go.RowKit
theorem JZ(l:List UInt8)(w:World)(hs:l.length<=1048700):Calls prog 149 #[Sb (U3 l)] w λe w'=>(∃t,e=.returned (Sb (U3 t))/\t.length<=l.length+1/\∀q,l=Z5 q->t=q)/\Bw w w':=by
 have h:=a1R (U3 l) w (by rw[I5];exact hs);rw[I5]at h;exact h
theorem yO(s:BY)(w:World)(h1:1<=s.size)(h16:s.size<=16000)(hw:Y1 ((Z8 10 s.data.toList).getD 0 [])=Si):
 Calls prog 108 #[Sb s] w λe w'=>Is4 s.data.toList w' e/\Bw w w':=by
 have hB0:Bw w ((w.alloc (Sg zE.toArray 171)).alloc (Sg zE.toArray 171)):=U6.alloc J4 _;have hsl:s.data.toList.length=s.size:=J4;have HNE:Hid (s.data.toList≠[]):=λh=>by rw[h]at hsl;simp at hsl;omega
 have hse:(s.toList==[])=false:=by
  rw[ByteArray.toList_eq];exact S_.2 HNE.o
 have a7A:¬s.toList=[]:=by simpa using hse
 have a7B:decide (16000<(s.size:Int))=false:=L8
 go_in
 go_wp2_with fail
 refine(c146 s 10 _ O0).mono ?_;rintro e w1⟨⟨g2,cp,rfl,hg2,D⟩,hb1⟩;have a6T:((w.alloc (Sg zE.toArray 171)).alloc (Sg zE.toArray 171)).heap.size=w.heap.size+2:=J4;have v:Below (w.heap.size+2) ((w.alloc (Sg zE.toArray 171)).alloc (Sg zE.toArray 171)) w1:=hb1.mono J4;have a6W:w.heap.size+2<=g2:=by have h:=hg2;simp at h;omega
 have hz1:w.heap.size+2<=w1.heap.size:=by have h:=v.size;rw[a6T]at h;exact h
 have bR1:=((X9 w zE 171).below U6 J4).below v O0;have oR1:=((og w zE.toArray 171).below U6 J4).below v O0;have bM1:=J6.below (by have h:=X9 (w.alloc (Sg zE.toArray 171)) zE 171;simp at h;exact h) v O0;have oM1:=J9.below (by have h:=og (w.alloc (Sg zE.toArray 171)) zE.toArray 171;simp at h;exact h) v O0;have H:=hB0.trans (v.mono O0);have J:=Zn 10 s.data.toList;have X:=zi 10 s.data.toList;clear hb1 hg2 a6T v;obtain⟨y,Y⟩:∃y,y=Z8 10 s.data.toList:=⟨_,rfl⟩;rw[<- Y]at D J X hw ⊢;have HLS:=U0 Y.symm;have HCS:Hid (∀k,(y.getD k []).length<=16000):=λk=>X7 (X k) O0;obtain⟨F,hF⟩:∃F,F=y.getD 0 []:=⟨_,rfl⟩;have HF:=U0 hF.symm;have hFl:F.length<=16000:=by rw[hF];exact HCS.o 0
 rw[<- hF]at hw;have a6X:=J.1;have a7u:y.length<=16001:=by have:=J.2;omega
 have c0:w1.cell? (aA g2 0)=some (vS (U3 F)):=by rw[hF];exact D.2 0 a6X
 have a6Y:=D.1;clear hF Y X J
 go_wp2_with fail
 refine(Zv F _ O0 1 O0 O0).mono ?_;rintro e r⟨⟨g3,cp3,rfl,hg3,R⟩,n⟩;have hz3:=n.size;have bR:=J6.below bR1 n O0;have oR:=J9.below oR1 n O0;have bM:=J6.below bM1 n O0;have P:=J9.below oM1 n O0;have hL3:=U0 (Qg D n);have hB3:=E5 H n;have d0:r.cell? (aA g3 0)=some (vS (U3 (Y1 F))):=R.2 0 (by simp[Q_]);have a7k:=R.1;have hrs:=X8 F;have hrN:U3 (g_ F 1)=U3 (Y2 F):=rfl;rw[hrN];clear hrN n bR1 oR1 bM1 oM1 D H R c0 hB0;have hMz:w.heap.size+1<r.heap.size:=O0;have hRB:w.heap.size<w.heap.size+1:=O0;have a7l:w.heap.size+1<g3:=O0;have a7v:w.heap.size+1<g2:=O0;have a6Z:g2<r.heap.size:=O0;clear hg3 a6Y a6W hz1 hz3;generalize w.heap.size+1=a at*;have HXg:=λt ht=>a4b (l:=s.data.toList) (F:=F) (t:=t) (by rw[HLS.o];exact HF.o) hw ht;have HW:=U0 hw;have hes:U3 (Y1 F)=⟨#[102,105,108,101]⟩:=by rw[hw];rfl
 rw[hes]at d0;clear hw hes;have k0:=bM 0 _ rfl;have f0:=P 0;have a7t:=X8 (Y2 F);have a7C:=X8 (Y2 (Y2 F))
 go_wp2_with fail
 refine(Zv (Y2 F) _ O0 1 O0 O0).mono ?_;rintro e I⟨⟨g4,cp4,rfl,W,Q⟩,m⟩;have f:(r.setCell (aA a 0) (vI 2)).heap.size=r.heap.size:=J4;have hz4:r.heap.size<=I.heap.size:=by have h:=m.size;rw[f]at h;exact h
 have bM4:=J6.below (bM.set 0 (vI 2) (by show 0<10;omega)) m (by rw[f];exact hMz);have oM4:=J9.below (P.set (aA a 0) (vI 2)) m (by rw[f];exact hMz);have bR4:=J6.below (bR.other (aA a 0) (vI 2) (by show a≠w.heap.size;omega)) m (by rw[f];omega);have oR4:=J9.below (oR.set (aA a 0) (vI 2)) m (by rw[f];omega);have hB4:=(hB3.setCell (by show w.heap.size<=a;omega) _).trans (m.mono (by rw[f];omega));have a7O:r.heap.size<=g4:=by rw[f]at W;exact W
 have a6U:=Q.1;have hL4:Hid (Tc I g2 y):=⟨O0,λi V=>(m.cell (by rw[f];exact a6Z)).trans (lS (q:=(aA a 0)) (p:=(aA g2 i)) (by show a≠g2;omega) (hL3.o.2 i V) _)⟩;have e0:I.cell? (aA g4 0)=some (vS (U3 (Y1 (Y2 F)))):=Q.2 0 (by simp[Q_]);have a7P:U3 (g_ (Y2 F) 1)=U3 (Y2 (Y2 F)):=rfl;rw[a7P];clear a7P m f bM P bR oR hB3 Q W hL3 d0 k0 f0;have a1:(Y1 (Y2 F)).length<=16000:=O0;have a2:(Y2 (Y2 F)).length<=16000:=O0;clear hrs a7t a7C;generalize Y1 (Y2 F)=b at*;generalize Y2 (Y2 F)=A2 at*
 go_wp2_with fail
 refine wp_region_held_drew (S:=(λu=>u.cell? (aA g4 0)=some (vS (U3 b)))) Y0 ?_ λhHeld=>?_
 ·exact e0
 iterate 4 refine sq ?_
 refine rq 4 λK E=>?_;go_simp;refine(JZ A2 _ O0).mono ?_;rintro e d⟨⟨t,rfl,htl,htq⟩,hbn⟩;have j:Bw I d:=((O4 _ _).drew).trans hbn;have HTQ:=U0 htq;clear hbn htq
 go_wp2_with fail
 clear hHeld;refine G9 E ?_ λhHeld=>?_
 ·exact(j.cell (by exact a6U)).trans e0
 clear E K
 iterate 2 refine sq ?_
 have L:=J6.below bM4 j O0;have oM5:=J9.below oM4 j O0;have e5:=(j.cell (by exact a6U)).trans e0;refine rq 7 λK E=>?_;refine Qd rfl 169 (.tmp 52) (.tmp 51) rfl a 2 rfl [vS (U3 b),vS (U3 t)] rfl (λi V=>by rcases i with _|_|i;exact(by rw[L 2 _ rfl];rfl);exact(by rw[L 3 _ rfl];rfl);simp at V;omega) oM5 (by simp[Value.oneCell']) Y0 rfl ?_;clear hHeld;refine G9 E ?_ λhHeld=>?_
 ·exact(Ia _ 2 (aA g4 0) (by show g4≠a;omega)).trans e5
 clear E K;refine wdn ?_;clear hHeld;have hz5:=j.size;have bR5:=J6.below bR4 j O0;have oR5:=J9.below oR4 j O0;have hB5:=E5 hB4 j;have N:=U0 (HXg t HTQ);have HM:J6 (fill d a 2 [vS (U3 b),vS (U3 t)]) a ((Mc (U3 b) (U3 t)).c none 0):=J6.fill (B:=a) [vS (U3 b),vS (U3 t)] [vI 2,vO] [vE,vE] [vE,vE,vE,vN,vO,vE] 2 L rfl rfl;have HR:J6 (fill d a 2 [vS (U3 b),vS (U3 t)]) w.heap.size zE:=J6.a0n O0 _ 2 bR5;have HO:J9 (fill d a 2 [vS (U3 b),vS (U3 t)]) w.heap.size:=J9.fill _ 2 oR5;have hBU:Bw w (fill d a 2 [vS (U3 b),vS (U3 t)]):=Ub O0 _ 2 hB5;have hMU:a<(fill d a 2 [vS (U3 b),vS (U3 t)]).heap.size:=by rw[Xh];omega
 have hRU:w.heap.size<(fill d a 2 [vS (U3 b),vS (U3 t)]).heap.size:=by rw[Xh];omega
 have HLK:O9 (fill d a 2 [vS (U3 b),vS (U3 t)]) none (Mc (U3 b) (U3 t)).ls:=.inl rfl;have hle:(Mc (U3 b) (U3 t)).le 1048576:=⟨by show(U3 b).size<=1048576;rw[I5];omega,by show(U3 t).size<=1048576;rw[I5];omega,⟨Y4 _,Y4 _,Y4 _⟩,⟨Y4 _,λ_=>⟨Y4 _,Y4 _⟩⟩,Y4 _⟩;have a7m:∀g o,(none:OA)=some (aA g o)->g≠w.heap.size:=λ_ _ h=>by cases h
 clear bM4 oM4 L oM5 bR4 oR4 bR5 oR5 hB4 hB5 j HXg e0 e5;generalize fill d a 2 [vS (U3 b),vS (U3 t)]=U at*;generalize U3 b=C at*;generalize U3 t=A at*
 go_wp2_with(refine Cb (by rfl) 171 (.tmp 4) rfl a rfl ((Mc C A).c none 0) _ HM underlying171 rfl Y0 ?_)
 refine(c152 (Mc C A) none 0 _ hle HLK).mono ?_;rintro e U1⟨⟨z,rfl,hT⟩,x⟩;have HM1:=J6.below HM x hMU;have O:=J6.below HR x hRU;have HO1:=J9.below HO x hRU;have H:=E5 hBU x;have a7n:=Q7 HLK x;clear HM HR HO HLK hBU x;by_cases he:z.data.toList=s.data.toList
 ·have HN:=U0 (Us N hT HNE he);have Z:z.toList=s.toList:=by rw[ByteArray.toList_eq,ByteArray.toList_eq];exact he
  have e1:(z.toList==s.toList)=true:=by simpa using Z
  clear hT N he
  go_wp2_with(first|refine Cc rfl 171 (.tmp 4) rfl a rfl ((Mc C A).c none 0) _ HM1 underlying171 rfl Y0 ?_|refine H8 rfl 171 (.tmp 2) (.tmp 123) rfl w.heap.size 0 rfl ((Mc C A).c none 0) rfl (l_ O _ rfl) HO1 (z_.uD _ _ _) Y0 rfl ?_)
  exact sJ (Mc C A) none 0 true HN (λh=>by cases h) hle (gm _ a7n a7m) rfl rfl rfl O H
 have HN:=U0 (Dw N hT he);have Z:¬z.toList=s.toList:=by rw[ByteArray.toList_eq,ByteArray.toList_eq];exact he
 have e1:(z.toList==s.toList)=false:=by simpa using Z
 clear hT N he
 go_wp2_with(refine H8 rfl 171 (.tmp 2) (.tmp 122) rfl w.heap.size 0 rfl zE rfl (l_ O zE rfl) HO1 (by simp[zE,Value.oneCell']) Y0 rfl ?_)
 exact ql HN rfl rfl rfl O H
theorem vU(s:BY)(w:World)(h1:1<=s.size)(h16:s.size<=16000)(hw:Y1 ((Z8 10 s.data.toList).getD 0 [])=Ul):
 Calls prog 108 #[Sb s] w λe w'=>Is4 s.data.toList w' e/\Bw w w':=by
 have hB0:Bw w ((w.alloc (Sg zE.toArray 171)).alloc (Sg zE.toArray 171)):=U6.alloc J4 _;have hsl:s.data.toList.length=s.size:=J4;have HNE:Hid (s.data.toList≠[]):=λh=>by rw[h]at hsl;simp at hsl;omega
 have hse:(s.toList==[])=false:=by
  rw[ByteArray.toList_eq];exact S_.2 HNE.o
 have a7A:¬s.toList=[]:=by simpa using hse
 have a7B:decide (16000<(s.size:Int))=false:=L8
 go_in
 go_wp2_with fail
 refine(c146 s 10 _ O0).mono ?_;rintro e w1⟨⟨g2,cp,rfl,hg2,hL1⟩,hb1⟩;have a6T:((w.alloc (Sg zE.toArray 171)).alloc (Sg zE.toArray 171)).heap.size=w.heap.size+2:=J4;have Q:Below (w.heap.size+2) ((w.alloc (Sg zE.toArray 171)).alloc (Sg zE.toArray 171)) w1:=hb1.mono J4;have a6W:w.heap.size+2<=g2:=by have h:=hg2;simp at h;omega
 have hz1:w.heap.size+2<=w1.heap.size:=by have h:=Q.size;rw[a6T]at h;exact h
 have bR1:=((X9 w zE 171).below U6 J4).below Q O0;have oR1:=((og w zE.toArray 171).below U6 J4).below Q O0;have bM1:=J6.below (by have h:=X9 (w.alloc (Sg zE.toArray 171)) zE 171;simp at h;exact h) Q O0;have oM1:=J9.below (by have h:=og (w.alloc (Sg zE.toArray 171)) zE.toArray 171;simp at h;exact h) Q O0;have hB1:=hB0.trans (Q.mono O0);have hcl:=Zn 10 s.data.toList;have hcs:=zi 10 s.data.toList;clear hb1 hg2 a6T Q;obtain⟨f,hLs⟩:∃f,f=Z8 10 s.data.toList:=⟨_,rfl⟩;rw[<- hLs]at hL1 hcl hcs hw ⊢;have HLS:=U0 hLs.symm;have HCS:Hid (∀k,(f.getD k []).length<=16000):=λk=>X7 (hcs k) O0;obtain⟨F,hF⟩:∃F,F=f.getD 0 []:=⟨_,rfl⟩;have HF:=U0 hF.symm;have hFl:F.length<=16000:=by rw[hF];exact HCS.o 0
 rw[<- hF]at hw;have a6X:=hcl.1;have a7u:f.length<=16001:=by have:=hcl.2;omega
 have c0:w1.cell? (aA g2 0)=some (vS (U3 F)):=by rw[hF];exact hL1.2 0 a6X
 have a6Y:=hL1.1;clear hF hLs hcs hcl
 go_wp2_with fail
 refine(Zv F _ O0 1 O0 O0).mono ?_;rintro e P⟨⟨g3,cp3,rfl,hg3,hl3⟩,N⟩;have hz3:=N.size;have bR:=J6.below bR1 N O0;have I:=J9.below oR1 N O0;have C:=J6.below bM1 N O0;have J:=J9.below oM1 N O0;have hL3:=U0 (Qg hL1 N);have hB3:=E5 hB1 N;have d0:P.cell? (aA g3 0)=some (vS (U3 (Y1 F))):=hl3.2 0 (by simp[Q_]);have a7k:=hl3.1;have hrs:=X8 F;have hrN:U3 (g_ F 1)=U3 (Y2 F):=rfl;rw[hrN];clear hrN N bR1 oR1 bM1 oM1 hL1 hB1 hl3 c0 hB0;have hMz:w.heap.size+1<P.heap.size:=O0;have hRB:w.heap.size<w.heap.size+1:=O0;have a7l:w.heap.size+1<g3:=O0;have a7v:w.heap.size+1<g2:=O0;have a6Z:g2<P.heap.size:=O0;clear hg3 a6Y a6W hz1 hz3;generalize w.heap.size+1=a at*;have HXg:=λq xs c t hq hs=>a3A (l:=s.data.toList) (F:=F) (q:=q) (xs:=xs) (c:=c) (t:=t) (by rw[HLS.o];exact HF.o) hw hq (by rw[HLS.o];exact hs);have HW:=U0 hw;have hes:U3 (Y1 F)=⟨#[114,97,110]⟩:=by rw[hw];rfl
 rw[hes]at d0;clear hw hes;have k0:=C 0 _ rfl;have f0:=J 0;have a7t:=X8 (Y2 F);have a7C:=X8 (Y2 (Y2 F))
 go_wp2_with fail
 refine(Zv (Y2 F) _ O0 2 O0 O0).mono ?_;rintro e w4⟨⟨g4,cp4,rfl,hg4,hl4⟩,L⟩;have D:(P.setCell (aA a 0) (vI 4)).heap.size=P.heap.size:=J4;have hz4:P.heap.size<=w4.heap.size:=by have h:=L.size;rw[D]at h;exact h
 have bM4:=J6.below (C.set 0 (vI 4) (by show 0<10;omega)) L (by rw[D];exact hMz);have oM4:=J9.below (J.set (aA a 0) (vI 4)) L (by rw[D];exact hMz);have bR4:=J6.below (bR.other (aA a 0) (vI 4) (by show a≠w.heap.size;omega)) L (by rw[D];omega);have oR4:=J9.below (I.set (aA a 0) (vI 4)) L (by rw[D];omega);have hB4:=(hB3.setCell (by show w.heap.size<=a;omega) _).trans (L.mono (by rw[D];omega));have a7O:P.heap.size<=g4:=by rw[D]at hg4;exact hg4
 have a6U:=hl4.1;have hL4:Hid (Tc w4 g2 f):=⟨O0,λi r=>(L.cell (by rw[D];exact a6Z)).trans (lS (q:=(aA a 0)) (p:=(aA g2 i)) (by show a≠g2;omega) (hL3.o.2 i r) _)⟩;have a8B:=X8 (g_ (Y2 F) 1);have e0:w4.cell? (aA g4 0)=some (vS (U3 (Y1 (Y2 F)))):=hl4.2 0 (by simp[Q_]);have e1:w4.cell? (aA g4 1)=some (vS (U3 (Y1 (g_ (Y2 F) 1)))):=hl4.2 1 (by simp[Q_]);obtain⟨j0,H,hy0,hy1,hy2⟩:=info_parts FM;have hrl:=Gj (Y2 F);have a1:(Y1 (Y2 F)).length<=16000:=O0;have a2:(Y1 (g_ (Y2 F) 1)).length<=16000:=by have h:=hrl 1;omega
 have a3:(g_ (Y2 F) 2).length<=16000:=by have h:=hrl 2;omega
 clear L D C J bR I hB3 hl4 hg4 hL3 d0 k0 f0 hrs a7t a7C a8B hrl;generalize g_ (Y2 F) 2=A3 at*;generalize Y1 (g_ (Y2 F) 1)=b at*;generalize Y1 (Y2 F)=d at*
 go_wp2_with fail
 refine wp_region_held_drew (S:=(λu=>u.cell? (aA g4 0)=some (vS (U3 d))/\u.cell? (aA g4 1)=some (vS (U3 b)))) Y0 ?_ λhHeld=>?_
 ·exact⟨e0,e1⟩
 iterate 7 refine sq ?_
 refine rq 7 λK hK=>?_;go_simp;refine(JZ A3 _ O0).mono ?_;rintro e m⟨⟨q,rfl,htl,htq⟩,hbn⟩;have n:Bw w4 m:=((O4 _ _).drew).trans hbn;have HTQ:=U0 htq;clear hbn htq
 go_wp2_with fail
 clear hHeld;refine G9 hK ?_ λhHeld=>?_
 ·exact⟨(n.cell (by exact a6U)).trans e0,(n.cell (by exact a6U)).trans e1⟩
 clear hK K
 iterate 2 refine sq ?_
 have bM5:=J6.below bM4 n O0;have oM5:=J9.below oM4 n O0;have e5:=(n.cell (by exact a6U)).trans e0;have e6:=(n.cell (by exact a6U)).trans e1;refine rq 10 λK hK=>?_;refine Qd rfl 142 (.tmp 79) (.tmp 78) rfl a 4 rfl [vS (U3 d),vS (U3 b),vS (U3 q)] rfl (λi r=>by rcases i with _|_|_|i;exact(by rw[bM5 4 _ rfl];rfl);exact(by rw[bM5 5 _ rfl];rfl);exact(by rw[bM5 6 _ rfl];rfl);simp at r;omega) oM5 (by simp[Value.oneCell']) Y0 rfl ?_;clear hHeld;refine G9 hK ?_ λhHeld=>?_
 ·exact⟨(Ia _ 4 (aA g4 0) (by show g4≠a;omega)).trans e5,(Ia _ 4 (aA g4 1) (by show g4≠a;omega)).trans e6⟩
 clear hK K;refine wdn ?_;clear hHeld;have hz5:=n.size;have a7Q:=J6.below bR4 n O0;have a7R:=J9.below oR4 n O0;have a7S:=E5 hB4 n;have hL5':=Qg hL4 n;have bM6:J6 (fill m a 4 [vS (U3 d),vS (U3 b),vS (U3 q)]) a [vI 4,vO,vE,vE,vS (U3 d),vS (U3 b),vS (U3 q),vN,vO,vE]:=J6.fill (B:=a) [vS (U3 d),vS (U3 b),vS (U3 q)] [vI 4,vO,vE,vE] [vE,vE,vE] [vN,vO,vE] 4 bM5 rfl rfl;have oM6:J9 (fill m a 4 [vS (U3 d),vS (U3 b),vS (U3 q)]) a:=J9.fill _ 4 oM5;have bR6:J6 (fill m a 4 [vS (U3 d),vS (U3 b),vS (U3 q)]) w.heap.size zE:=J6.a0n O0 _ 4 a7Q;have oR6:J9 (fill m a 4 [vS (U3 d),vS (U3 b),vS (U3 q)]) w.heap.size:=J9.fill _ 4 a7R;have hB6:Bw w (fill m a 4 [vS (U3 d),vS (U3 b),vS (U3 q)]):=Ub O0 _ 4 a7S;have hz6:(fill m a 4 [vS (U3 d),vS (U3 b),vS (U3 q)]).heap.size=m.heap.size:=Xh _ _;have hL6:Tc (fill m a 4 [vS (U3 d),vS (U3 b),vS (U3 q)]) g2 f:=⟨by rw[hz6];exact hL5'.1,λi r=>(Ia _ 4 (aA g2 i) (by show g2≠a;omega)).trans (hL5'.2 i r)⟩;have a7T:g2<m.heap.size:=O0;have hMw:a<m.heap.size:=O0;rw[<- hz6]at a7T hMw;clear hz6 n bM4 oM4 bM5 oM5 bR4 oR4 a7Q a7R hB4 a7S hL5' hL4 e0 e1 e5 e6;generalize fill m a 4 [vS (U3 d),vS (U3 b),vS (U3 q)]=w6 at*;obtain⟨z,a8C⟩:∃z,z=w6.heap.size:=⟨_,rfl⟩;have A:a<z:=O0;have hgB:g2<z:=O0;have X:w.heap.size<z:=O0;clear a7O a6U hz4 hz5 hMz a6Z a7k a7l;go_wp2;go_loopw[12] (λi wr=>∃(k:Nat)(xs:List L4)(v:Value)(c:Int)(t:ByteArray),(1<=k/\k<=f.length/\xs.length<=k)/\i=Sc Se k/\wr.ownsRow z 213 4 v xs.length (YI xs)/\J6 wr a [Sc Se 4,Sc Se 0,Sb ⟨#[]⟩,Sb ⟨#[]⟩,Sb (U3 d),Sb (U3 b),Sb (U3 q),v,Sc Se c,Sb t]/\J9 wr a/\J6 wr w.heap.size zE/\J9 wr w.heap.size/\Tc wr g2 f/\Below w.heap.size w wr/\z<=wr.heap.size/\Hid (Gz f k xs c t/\(∀j,(xs.getD j K_).le 1048576)/\t.size<=1048576)) (λi _=>f.length-(RowKit.intOf i).toNat);exact⟨1,[],vN,0,⟨#[]⟩,⟨Y7 _,O0,Y4 _⟩,rfl,⟨rfl,.inl ⟨rfl,rfl⟩⟩,bM6,oM6,bR6,oR6,hL6,hB6,O0,⟨QV _ _ _,λ_=>⟨Y4 _,Y4 _⟩,Y4 _⟩⟩;clear bM6 oM6 bR6 oR6 hL6 hB6 a8C a7T hMw;obtain⟨k,xs,v,c,t,⟨hk1,hk2,hk3⟩,rfl,hown,C,J,bR,I,O,hB,hz,E⟩:=hrel;by_cases hlt:k<f.length
 ·have ck:=O.2 k hlt;have hT:=HCS.o k;have a7d:=λx h=>KY (x:=x) E.o.1 hk1 hlt h;have a7e:=λx c2 t2 h U hr=>a1I (x:=x) (c2:=c2) (t2:=t2) E.o.1 hk1 hlt h U hr;have a7f:=λx h U=>GZ (x:=x) E.o.1 hk1 hlt h U;have a7U:=E.o.2;clear E;generalize f.getD k []=T at*;have a7d:Hid _:=a7d;have a7e:Hid _:=a7e;have a7f:Hid _:=a7f;have HXS:Hid _:=a7U;clear a7U
  go_wp2_with fail
  refine(a2W T _ hT).mono ?_;rintro e w7⟨⟨x,ok,rfl,hls,a8D⟩,hb7⟩;have HLL:=U0 hls;have a6V:=Yx hown hb7;have hz7:=hb7.size;have a8E:=hb7.mono hz;have R:=E5 hB hb7;have oa:∀o,Below z wr (w7.alloc o):=λo=>a8E.alloc O0 o;clear hls hb7 hown;unfold L4.v;cases ok
  ·have ck7:∀o,(w7.alloc o).cell? (aA g2 k)=some (vS (U3 T)):=λo=>((oa o).cell (by exact hgB)).trans ck;by_cases U:5<T.length
   ·have h5':decide ((5:Int)<((U3 T).size:Int))=true:=by rw[I5];simp;omega
    have h5n:5<=(U3 T).size:=by rw[I5];omega
    have hex:(U3 T).extract 5 (U3 T).size=U3 (T.drop 5):=Uc (by rw[ext_list,I5,a_,p_ O0])
    go_wp2_with fail
    refine(a3X (T.drop 5) _ (by rw[Oj];omega)).mono ?_;rintro e w8⟨⟨c2,t2,rfl,hr8,ht8⟩,y⟩;have HSO:Hid (Gz f (k+1) xs c2 t2/\(∀j,(xs.getD j K_).le 1048576)/\t2.size<=1048576):=⟨a7e x c2 t2 HLL U hr8,HXS.o.1,ht8⟩;have a7o:=(oa _).trans (y.mono L8);have a7a:=Yx (a6V.alloc _) y;have hB8:=(R.alloc R.size _).trans (y.mono (by have:=R.size;simp;omega));have hz8:wr.heap.size<=w8.heap.size:=by have h:=y.size;simp at h;omega
    have Z:=C.below a7o A;have V:=J.below a7o A;have k8:=Z 8 _ rfl;have f8:=V 8;have k9:=Z 9 _ rfl;have f9:=V 9;clear hr8 y a7d a7e a7f;go_wp2;go_roundw
    ·exact⟨k+1,xs,v,c2,t2,⟨O0,O0,O0⟩,by go_num,YB (YB a7a (aA a 8) _ A) (aA a 9) _ A,(Z.set 8 (vI c2) (by show 8<10;omega)).set 9 (vS t2) (by show 9<10;omega),(V.set _ _).set _ _,((bR.below a7o X).other _ _ (by show a≠w.heap.size;omega)).other _ _ (by show a≠w.heap.size;omega),((I.below a7o X).set _ _).set _ _,⟨by have:=O.1;simp;omega,λi r=>lS (q:=(aA a 9)) (p:=(aA g2 i)) (by show a≠g2;omega) (lS (q:=(aA a 8)) (p:=(aA g2 i)) (by show a≠g2;omega) ((a7o.cell (by exact hgB)).trans (O.2 i r)) _) _⟩,(hB8.setCell (by show w.heap.size<=a;omega) _).setCell (by show w.heap.size<=a;omega) _,L8,HSO⟩
    exact V9
   have h5':decide ((5:Int)<((U3 T).size:Int))=false:=by rw[I5];simp;omega
   have HSO:Hid (Gz f (k+1) xs c t/\(∀j,(xs.getD j K_).le 1048576)/\t.size<=1048576):=⟨a7f x HLL U,HXS⟩;clear a7d a7e a7f U;go_wp2;go_roundw;exact⟨k+1,xs,v,c,t,⟨O0,O0,O0⟩,by go_num,a6V.alloc _,C.below (oa _) A,J.below (oa _) A,bR.below (oa _) X,I.below (oa _) X,⟨by have:=O.1;simp;omega,λi r=>((oa _).cell (by exact hgB)).trans (O.2 i r)⟩,R.alloc R.size _,L8,HSO⟩;exact V9
  have HSO:Hid (Gz f (k+1) (xs++[x]) c t/\(∀j,((xs++[x]).getD j K_).le 1048576)/\t.size<=1048576):=⟨a7d x HLL,λj=>by
   rcases Z7 j xs.length with H|H
   ·have:(xs++[x]).getD j K_=xs.getD j K_:=by
     simp only[Qk];rw[D_ H]
    rw[this];exact HXS.o.1 j
   by_cases hj2:j=xs.length
   ·have:(xs++[x]).getD j K_=x:=by
     simp only[Qk];rw[Yf H,hj2];simp
    rw[this];exact a8D
   have:(xs++[x]).getD j K_=K_:=by
    simp only[Qk];rw[Eb L8];rfl
   rw[this];exact⟨Y4 _,Y4 _⟩,HXS.o.2⟩
  clear a7d a7e a7f;have k7a:=λo=>C.below (oa o) A 7 _ rfl;have oaa:∀o o',Below z wr ((w7.alloc o).alloc o'):=λo o'=>(oa o).alloc L8 o'
  go_wp2_with(at_builtin;refine wpList_append_own _ rfl _ _ 116 rfl z 213 j0 (.agg #[.bool false,Sb ⟨#[]⟩,Sc Se 0,Sb ⟨#[]⟩]) 4 48 underlying116 H hy0 hy1 hy2 rfl U5 _ _ _ rfl ((a6V.alloc _).alloc _) ⟨w7.heap.size+1,0,none⟩ 1 1 [_,_,_,_] rfl rfl (a0l J4 _ _ _ _ _) (by intro u hu;simp at hu;rcases hu with rfl|rfl|rfl|rfl<;>rfl) (by unfold maxLen;omega) O0 L8 ?_;intro v' w8 a7a hgrow _;have y:Below z wr w8:=(oaa _ _).grown hgrow L8 (λj H=>(a6V.lt j H).1);have hB8:Bw w w8:=((R.alloc R.size _).alloc L8 _).grown hgrow L8 (λj H=>by have:=(a6V.lt j H).1;omega);have hz8:w7.heap.size<=w8.heap.size:=(by have:=hgrow.size;simp at this;omega);clear hgrow;obtain⟨g8,cp8,hv8⟩:=um a7a O0;subst hv8;have Z:=C.below y A;have V:=J.below y A;have k7:=Z 7 _ rfl;have f7:=V 7)
  go_roundw
  ·refine⟨k+1,xs++[x],vL (some (aA g8 0)) (xs.length+1) cp8,c,t,⟨O0,O0,L8⟩,by go_num,?_,?_,V.set _ _,(bR.below y X).other _ _ (by show a≠w.heap.size;omega),(I.below y X).set _ _,⟨by have:=O.1;simp;omega,λi r=>lS (q:=(aA a 7)) (p:=(aA g2 i)) (by show a≠g2;omega) ((y.cell (by exact hgB)).trans (O.2 i r)) _⟩,hB8.setCell (by show w.heap.size<=a;omega) _,L8,HSO⟩
   ·rw[Q9,iI];exact YB a7a (aA a 7) _ A
   exact Z.set 7 _ (by show 7<10;omega)
  exact V9
 obtain rfl:k=f.length:=O0;have HX:=U0 (HXg q xs c t HTQ E.o.1);have hxl:=E.o.2.1;have htx:=E.o.2.2;obtain⟨ao,Y,hv,hlk⟩:=TK hown rfl;subst hv;have a7m:∀g o,ao=some (aA g o)->g≠w.heap.size:=λg o h=>by
  subst h;have:=(hown.lt g rfl).1;omega
 have HM:J6 wr a ((Xg ⟨U3 d,U3 b,U3 q⟩ xs c t).c ao Y):=C;have HR:=bR;have HO:=I;have hBU:=hB;have hMU:a<wr.heap.size:=O0;have hRU:w.heap.size<wr.heap.size:=O0;have HLK:O9 wr ao (Xg ⟨U3 d,U3 b,U3 q⟩ xs c t).ls:=hlk.at';have hle:(Xg ⟨U3 d,U3 b,U3 q⟩ xs c t).le 1048576:=⟨Y4 _,Y4 _,⟨by show(U3 d).size<=1048576;rw[I5];omega,by show(U3 b).size<=1048576;rw[I5];omega,by show(U3 q).size<=1048576;rw[I5];omega⟩,⟨by show xs.length<=1048576;omega,hxl⟩,htx⟩;clear E hown hlk C J bR I O hB HXg hxl htx;generalize Xg ⟨U3 d,U3 b,U3 q⟩ xs c t=XX at*
 go_wp2_with(refine Cb (by rfl) 171 (.tmp 4) rfl a rfl ((XX).c ao Y) _ HM underlying171 rfl Y0 ?_)
 refine(c152 (XX) ao Y _ hle HLK).mono ?_;rintro e U1⟨⟨str,rfl,hT⟩,W⟩;have HM1:=J6.below HM W hMU;have HR1:=J6.below HR W hRU;have HO1:=J9.below HO W hRU;have hB1:=E5 hBU W;have a7n:=Q7 HLK W;clear HM HR HO HLK hBU W;by_cases he:str.data.toList=s.data.toList
 ·have HN:=U0 (Us HX hT HNE he);have e2:str.toList=s.toList:=by rw[ByteArray.toList_eq,ByteArray.toList_eq];exact he
  have e1:(str.toList==s.toList)=true:=by simpa using e2
  clear hT HX he
  go_wp2_with(first|refine Cc rfl 171 (.tmp 4) rfl a rfl ((XX).c ao Y) _ HM1 underlying171 rfl Y0 ?_|refine H8 rfl 171 (.tmp 2) (.tmp 123) rfl w.heap.size 0 rfl ((XX).c ao Y) rfl (l_ HR1 _ rfl) HO1 (z_.uD _ _ _) Y0 rfl ?_)
  exact sJ (XX) ao Y true HN (λh=>by cases h) hle (gm _ a7n a7m) rfl rfl rfl HR1 hB1
 have HN:=U0 (Dw HX hT he);have e2:¬str.toList=s.toList:=by rw[ByteArray.toList_eq,ByteArray.toList_eq];exact he
 have e1:(str.toList==s.toList)=false:=by simpa using e2
 clear hT HX he
 go_wp2_with(refine H8 rfl 171 (.tmp 2) (.tmp 122) rfl w.heap.size 0 rfl zE rfl (l_ HR1 zE rfl) HO1 (by simp[zE,Value.oneCell']) Y0 rfl ?_)
 exact ql HN rfl rfl rfl HR1 hB1
