import Derived.Test.YtbgdfcmeheaiiaaGreatDooreEO
import Derived.Deep.Heap
set_option maxHeartbeats 8000000
set_option maxRecDepth 100000
set_option linter.unusedVariables false
set_option linter.unusedSimpArgs false
namespace Go.Proofs.YtbgdfcmeheaiiaaGreatDoor
open Proofs.Tryz Go.RowKit
theorem II:Inf prog 9 1:=Um Y0
theorem a0Q:Inf prog 176 3:=Um Y0
theorem xZ:Inf prog 256 3:=Um Y0
variable{w u u':World}{base size n A k:Nat}{e t:TypeId}{v tv rv:Value}{xs vs:List Value}
theorem Hw{B:Nat}(h:B=w.heap.size):Cl (w.alloc (.cells xs.toArray t)) B t xs:=h▸U3 w xs t
theorem Eb(h:w.ownsRow base e size v n xs):∃a c,v=.slice a n c:=by
 rcases h.2 with⟨rfl,rfl⟩|⟨g,cap,cur,rfl,_⟩
 ·exact⟨_,_,rfl⟩
 exact⟨_,_,rfl⟩
theorem PI(h:w.ownsRow base e size v n xs)(a:v.ownBlock≠none):∃g c,v=.slice (some ⟨g,0,none⟩) n c:=by
 rcases h.2 with⟨rfl,rfl⟩|⟨g,cap,cur,rfl,_⟩
 ·exact absurd rfl a
 exact⟨_,_,rfl⟩
theorem Di{B:Nat}(h:Below B w u)(g:u.grownBy u' v.ownBlock)(hz:B<=u.heap.size)(hv:∀k,v.ownBlock=some k->B<=k):Below B w u':=
 ⟨g.os.trans h.os,g.tape.trans h.tape,g.output.trans h.output,Q8 h.size g.size,λk a=>(g.block k O0 (λe=>by have:=hv k e.symm;omega)).trans (h.block k a)⟩
theorem row0(w:World)(e:TypeId)(size:Nat){B:Nat}(hB:B=w.heap.size)(a:base<=B):(w.alloc (.cells #[] e)).ownsRow base e size (.slice (some ⟨B,0,none⟩) 0 0) 0 []:=by
 subst hB;exact⟨O4,.inr ⟨w.heap.size,0,#[],rfl,a,heap_alloc_new w _,J9 _,J6,O4,O4⟩⟩
theorem QK(h:w.ownsRow base e size v n xs)(a:∀g,v.ownBlock=some g->u.heap[g]?=w.heap[g]?):Src u v size n xs:=by
 have hl:=h.1;rcases h.2 with⟨rfl,rfl⟩|⟨g,d,cur,rfl,hb,c,hnc,hcm,hcs,b⟩
 ·exact .inl ⟨⟨_,rfl⟩,rfl,La.1 (by rw[hl,Ov])⟩
 refine .inr ⟨⟨g,0,none⟩,d,rfl,hl,λj x e=>?_⟩;rw[<- b,Xu]at e;split at e;rotate_left
 ·cases e
 rw[Zq,Lib.cell_of_heap ((a g rfl).trans c)];simpa using e
theorem IA(h:w.ownsRow base e size v n xs){j:Nat}{x:Value}(hx:xs[j]?=some x):∃g c,v=.slice (some ⟨g,0,none⟩) n c/\g<w.heap.size/\w.cell? ⟨g,j,none⟩=some x:=by
 have hl:=h.1;rcases h.2 with⟨rfl,rfl⟩|⟨g,d,cur,rfl,hb,a,hnc,hcm,hcs,b⟩
 ·rw[La.1 (show xs.length=0 by rw[hl,Ov])]at hx;cases hx
 refine⟨g,d,rfl,(Ua.1 a).1,?_⟩;rw[<- b,Xu]at hx;split at hx;rotate_left
 ·cases hx
 rw[Lib.cell_of_heap a];simpa using hx
theorem NZ{rs:List R3}(h:Yg w base v rs vs)(f:k<rs.length):∃g c a d,v=.slice (some ⟨g,0,none⟩) rs.length c/\g<w.heap.size/\vs.getD k undef=.slice a (rs.getD k j_).gs.length d/\w.cell? ⟨g,k*3,none⟩=some (.string (rs.getD k j_).key)/\w.cell? ⟨g,k*3+1,none⟩=some (.slice a (rs.getD k j_).gs.length d)/\w.cell? ⟨g,k*3+2,none⟩=some (.string (rs.getD k j_).out)/\w.ownsRow base 256 3 (.slice a (rs.getD k j_).gs.length d) (rs.getD k j_).gs.length (gC (rs.getD k j_).gs):=by
 obtain⟨l,a1,a2⟩:=vY rs vs k f;obtain⟨a,d,hv,hr⟩:=h.gl k f;rw[hv]at a1;obtain⟨g,c,rfl,i,e0⟩:=IA h.row l;obtain⟨_,_,e,_,e1⟩:=IA h.row a1;obtain⟨_,_,b,_,j⟩:=IA h.row a2;injection e with e;injection e with e;injection e with e;injection b with b;injection b with b;injection b with b;subst e b;exact⟨g,c,a,d,rfl,i,hv,e0,e1,j,hr⟩
structure C7(w:World)(A:Nat)(s:St)(tv rv tv' v2:Value)(P:List R3)(vs:List Value)(u:World):Prop where
 b:Below w.heap.size w u
 h0:Cl u w.heap.size 49 [.int .i64 s.wd,tv,rv]
 h1:Cl u (w.heap.size+1) 49 [.int .i64 0,.slice none 0 0,.slice none 0 0]
 ha:Cl u A 49 [.int .i64 s.wd,tv',v2]
 hA:w.heap.size+2<=A
 ht:u.ownsRow (w.heap.size+2) 9 1 tv' s.ts.length (s.ts.map .string)
 hr:Yg u (w.heap.size+2) v2 P vs
theorem C7.below{s:St}{tv' v2:Value}{P:List R3}(h:C7 w A s tv rv tv' v2 P vs u)(a:Below u.heap.size u u'):C7 w A s tv rv tv' v2 P vs u':=
 ⟨h.b.trans (a.mono h.b.size),h.h0.below a h.h0.lt,h.h1.below a h.h1.lt,h.ha.below a h.ha.lt,h.hA,own_below h.ht a,h.hr.keep (λq t hT _ _=>a.block q (Tm hT))⟩
theorem E_{B:Nat}(h:Cl w B t xs):Oj w B t:=⟨_,_,h⟩
theorem C7.make{s:St}{tv':Value}{W y z:World}(f:Below w.heap.size w W)(h0:Cl W w.heap.size 49 [.int .i64 s.wd,tv,rv])(h1:Cl W (w.heap.size+1) 49 [.int .i64 0,.slice none 0 0,.slice none 0 0])(a:W.heap.size=w.heap.size+2)(d:Below W.heap.size W y)(hA:w.heap.size+2<=A)(ht:y.ownsRow (w.heap.size+2) 9 1 tv' s.ts.length (s.ts.map .string))(ho:Wx A y z)(hc:Cl y A 49 xs)(c:Cl z A 49 [.int .i64 s.wd,tv',.slice none 0 0]):C7 w A s tv rv tv' (.slice none 0 0) [] [] z:=
 have hB:Below (w.heap.size+2) W z:=(a▸d).trans (ho.below hA)
 ⟨f.trans (hB.mono O0),h0.below hB O0,h1.below hB O0,c,hA,G7 ht (λq b=>ho.block q (λe=>absurd (V9 (E_ hc) (e▸N9 ht b)) J6)),⟨rfl,og _ _ _ _,λi h=>absurd h (U7 _),λi j h=>absurd h (U7 _)⟩⟩
theorem C7.app{s:St}{tv' v2 f:Value}{P:List R3}{y:R3}{g Z d:World}{v:OA}{o:Nat}(h:C7 w A s tv rv tv' v2 P vs u)(E:Below u.heap.size u g)(k:g.ownsRow (u.heap.size+1) 256 3 (.slice v y.gs.length o) y.gs.length (gC y.gs))(n:Below g.heap.size g Z)(z:d.ownsRow (w.heap.size+2) 176 3 f (P.length+1) (rC P vs++[.string y.key,.slice v y.gs.length o,.string y.out]))(x:Z.grownBy d v2.ownBlock):
 C7 w A s tv rv tv' f (P++[y]) (vs++[.slice v y.gs.length o]) (d.setCell ⟨A,2,none⟩ f)/\Cl d A 49 [.int .i64 s.wd,tv',v2]:=by
 have i:=P5 E n;have c:=h.below i;have hu:=h.b.size;have ha:=h.ha.lt;have hA:=h.hA;have D:=Di (J4 (w.heap.size+2) Z) x (by have:=i.size;omega) (λj e=>Y6 h.hr.row e);have kp:∀q t,Oj Z q t->t≠176->d.heap[q]?=Z.heap[q]?:=λq t hT ht=>x.block q (Tm hT) (λe=>ht (V9 hT (N9 c.hr.row e.symm)));have p:Cl d A 49 [.int .i64 s.wd,tv',v2]:=(kp A 49 (E_ c.ha) J6).trans c.ha;have m:=Tc d A 2 f;have r:=D.trans (m.below hA);have l:∀q t,Oj Z q t->t≠176->t≠49->(d.setCell ⟨A,2,none⟩ f).heap[q]?=Z.heap[q]?:=λq t hT h1 h2=>(m.block q (λe=>h2 (V9 (e▸hT) (E_ c.ha)))).trans (kp q t hT h1);refine⟨⟨c.b.trans (r.mono O0),c.h0.below r O0,c.h1.below r O0,p.set 2 f,hA,G7 c.ht (λq a=>l q 9 (N9 c.ht a) J6 J6),?_⟩,p⟩;have C:=G7 z (λq a=>m.block q (λe=>absurd (V9 (E_ p) (e▸N9 z a)) J6));have B:=G7 (own_below k n) (λq a=>l q 256 (N9 (own_below k n) a) J6 J6);exact IG h.hr (a_ B O0) C (λq a=>(l q 256 (a.below i (Tm a)) J6 J6).trans (i.block q (Tm a))) (λq a=>by have:=Y6 k a;omega)
theorem Wl(ts:LB):∀v∈ts.map Value.string,v.oneCell'=true:=λv hv=>by
 obtain⟨x,_,rfl⟩:=Zm.1 hv;rfl
theorem own_ne{v:Value}{q n c k:Nat}(h:v.ownBlock=(Value.slice (some ⟨q,0,none⟩) n c).ownBlock\/v.ownBlock=some k):v.ownBlock≠none:=by
 rcases h with h|h<;>rw[h]<;>exact λe=>nomatch e
theorem WN{X j:Nat}{y:Value}(h:w.ownsRow base e size v n xs)(hv:v.ownBlock≠some X):(w.setCell ⟨X,j,none⟩ y).ownsRow base e size v n xs:=G7 h (λq a=>(Tc w X j y).block q (λe=>hv (e▸a)))
theorem a3M{base':Nat}{rs:List R3}(h:Yg w base v rs vs)(a:base'<=base):Yg w base' v rs vs:=⟨h.len,a_ h.row a,λi b=>(by obtain⟨d,c3,e,c⟩:=h.gl i b;exact⟨d,c3,e,a_ c a⟩),h.apart⟩
theorem WO{P rs:List R3}(h:P <+:rs)(hl:P.length<rs.length):P++[rs.getD P.length j_] <+:rs:=by
 obtain⟨t,rfl⟩:=h
 cases t with
 | nil=>simp at hl
 | cons x r=>exact⟨r,by simp[List.getD]⟩
theorem a2v(s:St)(ta ra:OA)(tc rc:Nat)(w:World)(htl:s.ts.length<=1048576)(hrl:s.rs.length<=1048576)(hgl:∀i,(s.rs.getD i j_).gs.length<=1048576)(ht:∀u,Below w.heap.size w u->Src u (.slice ta s.ts.length tc) 1 s.ts.length (s.ts.map .string))
 (hr:∀u,Below w.heap.size w u->∀k,k<s.rs.length->∃g o a d,ra=some ⟨g,o,none⟩/\g<u.heap.size/\u.cell? ⟨g,o+k*3,none⟩=some (.string (s.rs.getD k j_).key)/\u.cell? ⟨g,o+k*3+1,none⟩=some (.slice a (s.rs.getD k j_).gs.length d)/\u.cell? ⟨g,o+k*3+2,none⟩=some (.string (s.rs.getD k j_).out)/\∀z,Below u.heap.size u z->Src z (.slice a (s.rs.getD k j_).gs.length d) 3 (s.rs.getD k j_).gs.length (gC (s.rs.getD k j_).gs)):
 Calls prog 213 #[.agg #[.int .i64 s.wd,.slice ta s.ts.length tc,.slice ra s.rs.length rc]] w λe w'=>(∃g c ra rc,e=.returned (.agg #[.int .i64 s.wd,.slice (some ⟨g,0,none⟩) s.ts.length c,.slice ra s.rs.length rc])/\Bd w' w.heap.size s.ts s.rs (.slice (some ⟨g,0,none⟩) s.ts.length c) (.slice ra s.rs.length rc))/\Below w.heap.size w w':=by
 have HT:=U0 ht;have HRR:=U0 hr;clear ht hr;have HGL:=U0 hgl;clear hgl
 go_in
 go_upto_region 1 with fail
 obtain⟨W,R⟩:∃W:World,W=(w.alloc (.cells #[.int .i64 s.wd,.slice ta s.ts.length tc,.slice ra s.rs.length rc] 49)).alloc (.cells #[.int .i64 0,.slice none 0 0,.slice none 0 0] 49):=⟨_,rfl⟩;rw[<- R];have bW:Below w.heap.size w W:=by rw[R];exact P6.alloc O4 _
 have H0:Hid (Cl W w.heap.size 49 [.int .i64 s.wd,.slice ta s.ts.length tc,.slice ra s.rs.length rc]):=by show Cl _ _ _ _;rw[R];exact G8 (U3 w [_,_,_] 49) _
 have H1:Hid (Cl W (w.heap.size+1) 49 [.int .i64 0,.slice none 0 0,.slice none 0 0]):=by show Cl _ _ _ _;rw[R];exact Hw (xs:=[_,_,_]) O4
 have E:Hid (W.heap.size=w.heap.size+2):=by show _=_;rw[R];simp
 have x:Hid (∀y,Below W.heap.size W y->y.cell? ⟨w.heap.size,0,none⟩=some (.int .i64 s.wd)/\y.cell? ⟨w.heap.size,1,none⟩=some (.slice ta s.ts.length tc)):=λy f=>have h:=H0.out.below f H0.out.lt;⟨h.cell 0,h.cell 1⟩
 have HR:Hid (∀y,Below W.heap.size W y->Src y (.slice ta s.ts.length tc) 1 s.ts.length (s.ts.map .string)):=λy f=>HT.out y (P5 bW f);clear R
 go_cut[3] from 3 (λs3 wx=>∃A g c,s3=.pointer (some ⟨A,0,none⟩)/\Hid (C7 w A s (.slice ta s.ts.length tc) (.slice ra s.rs.length rc) (.slice (some ⟨g,0,none⟩) s.ts.length c) (.slice none 0 0) [] [] wx))
 case first=>
  have hbd:Below W.heap.size W W.drew:=(J4 _ _).drew;have HM:Hid (∀(A:Nat)(tv':Value)(y z:World),Below W.heap.size W y->w.heap.size+2<=A->y.ownsRow (w.heap.size+2) 9 1 tv' s.ts.length (s.ts.map .string)->Wx A y z->Cl y A 49 [.int .i64 0,.slice none 0 0,.slice none 0 0]->Cl z A 49 [.int .i64 s.wd,tv',.slice none 0 0]->C7 w A s (.slice ta s.ts.length tc) (.slice ra s.rs.length rc) tv' (.slice none 0 0) [] [] z):=λA tv' y z h1 h2 h3 h4 h5 J=>C7.make bW H0.out H1.out E.out h1 h2 h3 h4 h5 J;refine FO x hbd Y0 λhH=>?_;refine tq 0 hH ?_;refine tq 1 hH ?_;refine tq 3 hH ?_;refine U8 4 ?_;have hz2:=Zj E.out.symm;refine wpAnyH_ready (rs:=[2,7]) Y0 O4 (AllReadyH.cons (o:=⟨some 8,.buildSlice 22 0 #[],22,_,_,none⟩) rfl (λK l=>?_) (AllReadyH.cons (o:=⟨some 3,.alloc 49,0,_,_,none⟩) rfl (λK l=>?_) AllReadyH.nil))
  focus
   go_simp;obtain⟨y,f⟩:∃q:World,q=(W.alloc (.cells #[] 9)).drew:=⟨_,rfl⟩;rw[<- f];have r:Below W.heap.size W y:=by rw[f];exact P6.drew
   have R1:Hid (y.ownsRow (w.heap.size+2) 9 1 (.slice (some ⟨W.heap.size,0,none⟩) 0 0) 0 []):=by show World.ownsRow _ _ _ _ _ _ _;rw[f];exact row0 W 9 1 rfl hz2
   clear f;refine X8 l (x.out _ r) λhH=>?_;clear l K;refine wpAnyH_ready (rs:=[5,7]) Y0 O4 (AllReadyH.cons (o:=⟨some 11,.call ⟨.builtin .append,#[.tmp 8,.tmp 10],#[22,22]⟩,22,_,_,none⟩) rfl (λK l=>?_) (AllReadyH.cons (o:=⟨some 3,.alloc 49,0,_,_,none⟩) rfl (λK l=>?_) AllReadyH.nil))
   ·refine Qc rfl _ _ 22 rfl (w.heap.size+2) 9 1 underlying22 II J6 (.slice (some ⟨W.heap.size,0,none⟩) 0 0) 0 [] rfl R1.out _ s.ts.length (s.ts.map .string) rfl (HR.out _ r) (Wl _) O0 (by have:=r.size;omega) ?_;intro v O m B I;rw[l7,Qb]at m;obtain⟨g,c,rfl⟩:=PI m (own_ne I);have X:=Di (J4 (w.heap.size+2) _) B (by have:=r.size;omega) (λj e=>Y6 R1.out e);have p:=r.trans (E.out.symm▸X);have OV:=U0 m;have gq:=B;clear m B I;refine X8 l (x.out _ p) λhH=>?_;clear l K;refine sq ?_;refine rq 7 λK l=>?_;go_simp;obtain⟨y3,f⟩:∃q:World,q=O.alloc (.cells #[.int .i64 0,.slice none 0 0,.slice none 0 0] 49):=⟨_,rfl⟩;have b3:Below W.heap.size W y3:=by rw[f];exact p.alloc p.size _
    have n:Hid (Cl y3 O.heap.size 49 [.int .i64 0,.slice none 0 0,.slice none 0 0]):=by show Cl _ _ _ _;rw[f];exact U3 _ [_,_,_] 49
    rw[<- f];have O3:=U0 (own_below OV.out (u':=y3) (by rw[f];exact P6));clear f;refine X8 l (x.out _ b3) λhH=>?_;clear l K;refine rq 8 λK l=>?_;refine Va rfl 49 _ _ rfl (j:=0) rfl rfl n.out Y8 (by simp[Value.oneCell']) Y0 ?_;intro z L D;have hz8:=U0 (HM.out _ _ _ _ b3 (by have:=p.size;omega) O3.out D n.out L);refine X8 l (x.out _ (b3.trans (D.below (by have:=r.size;have:=p.size;omega)))) λhH=>?_;clear l K;refine wdn ?_
    go_wp2_with fail
    go_meet
    exact⟨_,_,_,rfl,hz8⟩
   go_simp;obtain⟨Q,f⟩:∃q:World,q=y.alloc (.cells #[.int .i64 0,.slice none 0 0,.slice none 0 0] 49):=⟨_,rfl⟩;have C:Below W.heap.size W Q:=by rw[f];exact r.alloc r.size _
   have n:Hid (Cl Q y.heap.size 49 [.int .i64 0,.slice none 0 0,.slice none 0 0]):=by show Cl _ _ _ _;rw[f];exact U3 _ [_,_,_] 49
   rw[<- f];have N:=U0 (own_below R1.out (u':=Q) (by rw[f];exact P6));clear f;refine X8 l (x.out _ C) λhH=>?_;clear l K;refine rq 5 λK l=>?_;refine Qc rfl _ _ 22 rfl (w.heap.size+2) 9 1 underlying22 II J6 (.slice (some ⟨W.heap.size,0,none⟩) 0 0) 0 [] rfl N.out _ s.ts.length (s.ts.map .string) rfl (HR.out _ C) (Wl _) O0 (by have:=C.size;omega) ?_;intro v O m B I;rw[l7,Qb]at m;obtain⟨g,c,rfl⟩:=PI m (own_ne I);have X:=Di (J4 (w.heap.size+2) _) B (by have:=C.size;omega) (λj e=>Y6 N.out e);have p:=C.trans (E.out.symm▸X);have OV:=U0 m;have gq:=B;clear m B I;refine X8 l (x.out _ p) λhH=>?_;clear l K;refine sq ?_;have CV:Hid (Cl O y.heap.size 49 [.int .i64 0,.slice none 0 0,.slice none 0 0]):=(gq.block _ n.out.lt (λe=>absurd (V9 (E_ n.out) (N9 N.out e.symm)) J6)).trans n.out;refine rq 8 λK l=>?_;refine Va rfl 49 _ _ rfl (j:=0) rfl rfl CV.out Y8 (by simp[Value.oneCell']) Y0 ?_;intro z L D;have hz8:=U0 (HM.out _ _ _ _ p (by have:=r.size;omega) OV.out D CV.out L)
  rotate_left
  focus
   go_simp;obtain⟨y,f⟩:∃q:World,q=(W.alloc (.cells #[.int .i64 0,.slice none 0 0,.slice none 0 0] 49)).drew:=⟨_,rfl⟩;have r:Below W.heap.size W y:=by rw[f];exact P6.drew
   have n:Hid (Cl y W.heap.size 49 [.int .i64 0,.slice none 0 0,.slice none 0 0]):=by show Cl _ _ _ _;rw[f];exact U3 _ [_,_,_] 49
   rw[<- f];have hys:=n.out.lt;clear f;refine X8 l (x.out _ r) λhH=>?_;clear l K;refine rq 2 λK l=>?_;go_simp;obtain⟨Q,f⟩:∃q:World,q=y.alloc (.cells #[] 9):=⟨_,rfl⟩;rw[<- f];have hbb:Below y.heap.size y Q:=by rw[f];exact P6
   have C:=P5 r hbb;have N:Hid (Q.ownsRow (w.heap.size+2) 9 1 (.slice (some ⟨y.heap.size,0,none⟩) 0 0) 0 []):=by show World.ownsRow _ _ _ _ _ _ _;rw[f];exact row0 y 9 1 rfl O0
   have n:=U0 (n.out.below hbb n.out.lt);clear f;refine X8 l (x.out _ C) λhH=>?_;clear l K;refine rq 5 λK l=>?_;refine Qc rfl _ _ 22 rfl (w.heap.size+2) 9 1 underlying22 II J6 (.slice (some ⟨y.heap.size,0,none⟩) 0 0) 0 [] rfl N.out _ s.ts.length (s.ts.map .string) rfl (HR.out _ C) (Wl _) O0 (by have:=C.size;omega) ?_;intro v O m B I;rw[l7,Qb]at m;obtain⟨g,c,rfl⟩:=PI m (own_ne I);have X:=Di (J4 (w.heap.size+2) _) B (by have:=C.size;omega) (λj e=>Y6 N.out e);have p:=C.trans (E.out.symm▸X);have OV:=U0 m;have gq:=B;clear m B I;refine X8 l (x.out _ p) λhH=>?_;clear l K;refine sq ?_;have CV:Hid (Cl O W.heap.size 49 [.int .i64 0,.slice none 0 0,.slice none 0 0]):=(gq.block _ n.out.lt (λe=>absurd (V9 (E_ n.out) (N9 N.out e.symm)) J6)).trans n.out;refine rq 8 λK l=>?_;refine Va rfl 49 _ _ rfl (j:=0) rfl rfl CV.out Y8 (by simp[Value.oneCell']) Y0 ?_;intro z L D;have hz8:=U0 (HM.out _ _ _ _ p hz2 OV.out D CV.out L)
  all_goals
   refine X8 l (x.out _ (p.trans (D.below (by have:=r.size;have:=p.size;omega)))) λhH=>?_;clear l K;refine wdn ?_
   go_wp2_with fail
   go_meet
   exact⟨_,_,_,rfl,hz8⟩
 obtain⟨A,g,c,rfl,HC⟩:=hcut;clear x HR H0 H1 E bW;go_wp2;go_loopw[4] (λi wr=>∃(P:List R3)(v2:Value)(vs:List Value),i=.int .i64 P.length/\P.length<=s.rs.length/\Hid (P <+:s.rs)/\Hid (C7 w A s (.slice ta s.ts.length tc) (.slice ra s.rs.length rc) (.slice (some ⟨g,0,none⟩) s.ts.length c) v2 P vs wr)) (λi _=>s.rs.length-(RowKit.intOf i).toNat);exact⟨[],_,_,rfl,I4 _,List.nil_prefix,HC⟩;obtain⟨P,v2,vs,rfl,hk,hP,H⟩:=hrel;obtain⟨a2,c2,rfl⟩:=Eb H.out.hr.row;have d0:=H.out.h0.cell 2;have k0:=H.out.ha.cell 0;have k1:=H.out.ha.cell 1;have k2:=H.out.ha.cell 2;simp only[gz]at d0 k0 k1 k2;by_cases hlt:P.length<s.rs.length;rotate_left
 ·have hPe:=List.IsPrefix.eq_of_length hP.out O0;subst hPe
  go_wp2_with(refine N8 rfl 49 _ _ rfl (j:=0) rfl rfl H.out.h1 Y8 (by simp[Value.oneCell']) Y0 ?_;intro z L D)
  have kz:∀q t,Oj wr q t->t≠49->z.heap[q]?=wr.heap[q]?:=λq t hT h=>D.block q (λe=>h (V9 (e▸hT) (E_ H.out.h1)));exact o7 (v:=.agg #[.int .i64 s.wd,.slice (some ⟨g,0,none⟩) s.ts.length c,.slice a2 s.rs.length c2]) (I8 (P:=prog) (ty:=49) rfl _ z (w.heap.size+1) [.int .i64 s.wd,.slice (some ⟨g,0,none⟩) s.ts.length c,.slice a2 s.rs.length c2] _ rfl L.blk underlying49 rfl Y0) rfl ⟨⟨_,_,_,_,rfl,a_ (G7 H.out.ht (λq hq=>kz q 9 (N9 H.out.ht hq) J6)) O0,vs,a3M (H.out.hr.keep (λq t hT ht _=>kz q t hT (by rcases ht with rfl|rfl<;>decide))) O0⟩,H.out.b.trans (D.below O0)⟩
 obtain⟨g5,o5,ga,gd,rfl,hg5,e0,e1,e2,hgr⟩:=HRR.out wr H.out.b P.length hlt;have hn:=HGL.out P.length;have HPY:=U0 (WO hP.out hlt);generalize s.rs.getD P.length j_=y at*;have HGR:=U0 hgr;clear hgr hP HRR;obtain⟨Y,V⟩:∃Y:World,Y=(wr.alloc (.cells #[.string y.key,.slice ga y.gs.length gd,.string y.out] 176)).alloc (.cells #[] 256):=⟨_,rfl⟩;have bY:Below wr.heap.size wr Y:=by rw[V];exact P6.alloc O4 _
 have CX:Hid (Cl Y wr.heap.size 176 [.string y.key,.slice ga y.gs.length gd,.string y.out]):=by show Cl _ _ _ _;rw[V];exact G8 (U3 wr [_,_,_] 176) _
 have RX:Hid (Y.ownsRow (wr.heap.size+1) 256 3 (.slice (some ⟨wr.heap.size+1,0,none⟩) 0 0) 0 []):=by show World.ownsRow _ _ _ _ _ _ _;rw[V];exact row0 _ 256 3 O4 Y8
 have SX:=U0 (HGR.out Y bY);have hYs:=CX.out.lt
 go_upto_region 7 with(at_builtin;rw[<- V];refine Nr rfl _ _ 174 rfl (wr.heap.size+1) 256 3 underlying174 xZ J6 (.slice (some ⟨wr.heap.size+1,0,none⟩) 0 0) 0 [] rfl RX.out _ y.gs.length (gC y.gs) rfl SX.out (BQ y.gs) O0 O0 ?_;intro v5 y5 O5 gw _;rw[l7,Qb]at O5;obtain⟨U,S,rfl⟩:=Eb O5;have b5:=Di (J4 (wr.heap.size+1) Y) gw O0 (λj e=>Y6 RX.out e);have C5:=CX.out.below b5 O0;have n1:=C5.cell 1;have nf:=C5.opn 1;simp only[gz]at n1;clear gw)
 obtain⟨F,J⟩:∃q:World,q=y5.setCell ⟨wr.heap.size,1,none⟩ (.slice U y.gs.length S):=⟨_,rfl⟩;rw[<- J];have b6:Below wr.heap.size wr F:=by rw[J];exact(bY.trans (b5.mono O0)).setCell Y8 _
 have C6:Hid (Cl F wr.heap.size 176 [.string y.key,.slice U y.gs.length S,.string y.out]):=by show Cl _ _ _ _;rw[J];exact C5.set 1 _
 have R6:Hid (F.ownsRow (wr.heap.size+1) 256 3 (.slice U y.gs.length S) y.gs.length (gC y.gs)):=by show World.ownsRow _ _ _ _ _ _ _;rw[J];exact WN O5 (λe=>by have:=Y6 O5 e;omega)
 have H6:=U0 (H.out.below b6);clear J n1 nf C5 O5 b5 SX RX CX hYs bY V d0 k0 k1 k2 e0 e1 e2;have k2:=H6.out.ha.cell 2;have x0:=C6.out.cell 0;have x1:=C6.out.cell 1;have x2:=C6.out.cell 2;simp only[gz]at k2 x0 x1 x2;obtain⟨Z,hZ⟩:∃q:World,q=F.alloc (.cells #[.string y.key,.slice U y.gs.length S,.string y.out] 176):=⟨_,rfl⟩;have bZ:Below F.heap.size F Z:=by rw[hZ];exact P6
 have CZ:Hid (Cl Z F.heap.size 176 [.string y.key,.slice U y.gs.length S,.string y.out]):=by show Cl _ _ _ _;rw[hZ];exact U3 _ [_,_,_] 176
 have E:=U0 (H6.out.below bZ);have hb0:w.heap.size+2<=Z.heap.size:=by have:=E.out.ha.lt;have:=E.out.hA;omega
 go_wp2_with(at_builtin;rw[<- hZ];refine Nr rfl _ _ 47 rfl (w.heap.size+2) 176 3 underlying47 a0Q J6 (.slice a2 P.length c2) P.length (rC P vs) rfl E.out.hr.row _ 1 [.string y.key,.slice U y.gs.length S,.string y.out] rfl (.inr ⟨⟨F.heap.size,0,none⟩,1,rfl,rfl,jm CZ.out⟩) (by simp[Value.oneCell']) O0 hb0 ?_;intro v7 y7 O7 g7 _;obtain⟨a7,c64,rfl⟩:=Eb O7;obtain⟨hN,hN2⟩:=H.out.app b6 R6.out bZ O7 g7;have m1:=hN2.cell 2;have m2:=hN2.opn 2;simp only[gz]at m1;have HN:=U0 hN;clear O7 g7 hN hN2)
 go_roundw;exact⟨P++[y],_,_,by rw[L9];go_num,by rw[L9];simp;omega,HPY,HN⟩;exact P9
theorem c213(s:St)(b0:Nat)(tv rv:Value)(w:World)(htl:s.ts.length<=1000)(hrl:s.rs.length<=1000)(n:∀i,(s.rs.getD i j_).gs.length<=1000)(a:Bd w b0 s.ts s.rs tv rv):
 Calls prog 213 #[.agg #[.int .i64 s.wd,tv,rv]] w λe w'=>(∃g c ra rc,e=.returned (.agg #[.int .i64 s.wd,.slice (some ⟨g,0,none⟩) s.ts.length c,.slice ra s.rs.length rc])/\Bd w' w.heap.size s.ts s.rs (.slice (some ⟨g,0,none⟩) s.ts.length c) (.slice ra s.rs.length rc))/\Below w.heap.size w w':=by
 obtain⟨ta,tc,rfl⟩:=Eb a.1;obtain⟨ra,rc,rfl⟩:=Eb a.2.choose_spec.row;refine a2v s ta ra tc rc w O0 O0 (λi=>Q8 (n i) J6) (λu b=>QK a.1 (λg p=>b.block g (Oe a.1 p))) λu b k m=>?_;obtain⟨_,vs0,j⟩:=Gw a b;obtain⟨g5,c39,t,r,h,o,_,e0,e1,v,d⟩:=NZ j m;injection h with h1;exact⟨g5,0,t,r,h1,o,by rw[l7];exact e0,by rw[l7];exact e1,by rw[l7];exact v,λz f=>QK d (λq l=>f.block q (Oe d l))⟩
end Go.Proofs.YtbgdfcmeheaiiaaGreatDoor
namespace Go.Proofs.YtbgdfcmeheaiiaaGreatDoor
open Proofs.Tryz Go.RowKit
theorem mY(l:List UInt8)(w:World)(a:l.length<=1048700):Calls prog 150 #[.string (Y2 l)] w λe w'=>(∃t,e=.returned (.string (Y2 t))/\t.length<=l.length+1/\∀q,l=J5 q->t=q)/\Bw w w':=by
 have h:=a0y (Y2 l) w (by rw[Y4];exact a);rw[Y4]at h;exact h
theorem TQ(s:BY)(w:World)(h1:1<=s.size)(h16:s.size<=16000)(hw:O1 ((L8 10 s.data.toList).getD 0 [])=Ph):
 Calls prog 89 #[.string s] w λe w'=>Is4 s.data.toList w' e/\Bw w w':=by
 have hB0:Bw w ((w.alloc (.cells zE.toArray 168)).alloc (.cells zE.toArray 168)):=P6.alloc O4 _;have hsl:s.data.toList.length=s.size:=O4;have HNE:Hid (s.data.toList≠[]):=λh=>by rw[h]at hsl;simp at hsl;omega
 have hse:(s.toList==[])=false:=by
  rw[ByteArray.toList_eq];exact K_.2 HNE.out
 have a5P:¬s.toList=[]:=by simpa using hse
 have a5Q:decide (16000<(s.size:Int))=false:=X7
 go_in
 go_wp2_with fail
 refine(mQ s 10 _ O0).mono ?_;rintro e P⟨⟨g2,cp,rfl,hg2,D⟩,hb1⟩;have a5i:((w.alloc (.cells zE.toArray 168)).alloc (.cells zE.toArray 168)).heap.size=w.heap.size+2:=O4;have v:Below (w.heap.size+2) ((w.alloc (.cells zE.toArray 168)).alloc (.cells zE.toArray 168)) P:=hb1.mono O4;have a5l:w.heap.size+2<=g2:=by have h:=hg2;simp at h;omega
 have hz1:w.heap.size+2<=P.heap.size:=by have h:=v.size;rw[a5i]at h;exact h
 have bR1:=((I9 w zE 168).below P6 O4).below v O0;have oR1:=((Rf w zE.toArray 168).below P6 O4).below v O0;have bM1:=E5.below (by have h:=I9 (w.alloc (.cells zE.toArray 168)) zE 168;simp at h;exact h) v O0;have oM1:=o9.below (by have h:=Rf (w.alloc (.cells zE.toArray 168)) zE.toArray 168;simp at h;exact h) v O0;have H:=hB0.trans (v.mono O0);have J:=Sm 10 s.data.toList;have Y:=yh 10 s.data.toList;clear hb1 hg2 a5i v;obtain⟨y,Z⟩:∃y,y=L8 10 s.data.toList:=⟨_,rfl⟩;rw[<- Z]at D J Y hw ⊢;have HLS:=U0 Z.symm;have HCS:Hid (∀k,(y.getD k []).length<=16000):=λk=>Q8 (Y k) O0;obtain⟨F,hF⟩:∃F,F=y.getD 0 []:=⟨_,rfl⟩;have HF:=U0 hF.symm;have hFl:F.length<=16000:=by rw[hF];exact HCS.out 0
 rw[<- hF]at hw;have a5m:=J.1;have a5I:y.length<=16001:=by have:=J.2;omega
 have c0:P.cell? (aA g2 0)=some (vS (Y2 F)):=by rw[hF];exact D.2 0 a5m
 have a5n:=D.1;clear hF Z Y J
 go_wp2_with fail
 refine(Vs F _ O0 1 O0 O0).mono ?_;rintro e r⟨⟨g3,cp3,rfl,hg3,V⟩,n⟩;have hz3:=n.size;have bR:=E5.below bR1 n O0;have oR:=o9.below oR1 n O0;have bM:=E5.below bM1 n O0;have Q:=o9.below oM1 n O0;have hL3:=U0 (ug D n);have hB3:=P5 H n;have d0:r.cell? (aA g3 0)=some (vS (Y2 (O1 F))):=V.2 0 (by simp[H_]);have a5z:=V.1;have hrs:=H8 F;have hrN:Y2 (d_ F 1)=Y2 (Y1 F):=rfl;rw[hrN];clear hrN n bR1 oR1 bM1 oM1 D H V c0 hB0;have hMz:w.heap.size+1<r.heap.size:=O0;have hRB:w.heap.size<w.heap.size+1:=O0;have a5A:w.heap.size+1<g3:=O0;have a5J:w.heap.size+1<g2:=O0;have a5o:g2<r.heap.size:=O0;clear hg3 a5n a5l hz1 hz3;generalize w.heap.size+1=a at*;have HXg:=λt ht=>a1v (l:=s.data.toList) (F:=F) (t:=t) (by rw[HLS.out];exact HF.out) hw ht;have HW:=U0 hw;have hes:Y2 (O1 F)=⟨#[102,105,108,101]⟩:=by rw[hw];rfl
 rw[hes]at d0;clear hw hes;have k0:=bM 0 _ rfl;have f0:=Q 0;have a5H:=H8 (Y1 F);have a5R:=H8 (Y1 (Y1 F))
 go_wp2_with fail
 refine(Vs (Y1 F) _ O0 1 O0 O0).mono ?_;rintro e I⟨⟨g4,cp4,rfl,X,R⟩,m⟩;have f:(r.setCell (aA a 0) (vI 2)).heap.size=r.heap.size:=O4;have hz4:r.heap.size<=I.heap.size:=by have h:=m.size;rw[f]at h;exact h
 have bM4:=E5.below (bM.set 0 (vI 2) (by show 0<10;omega)) m (by rw[f];exact hMz);have oM4:=o9.below (Q.set (aA a 0) (vI 2)) m (by rw[f];exact hMz);have bR4:=E5.below (bR.other (aA a 0) (vI 2) (by show a≠w.heap.size;omega)) m (by rw[f];omega);have oR4:=o9.below (oR.set (aA a 0) (vI 2)) m (by rw[f];omega);have hB4:=(hB3.setCell (by show w.heap.size<=a;omega) _).trans (m.mono (by rw[f];omega));have a6c:r.heap.size<=g4:=by rw[f]at X;exact X
 have a5j:=R.1;have hL4:Hid (qc I g2 y):=⟨O0,λi W=>(m.cell (by rw[f];exact a5o)).trans (qQ (q:=(aA a 0)) (p:=(aA g2 i)) (by show a≠g2;omega) (hL3.out.2 i W) _)⟩;have e0:I.cell? (aA g4 0)=some (vS (Y2 (O1 (Y1 F)))):=R.2 0 (by simp[H_]);have a6d:Y2 (d_ (Y1 F) 1)=Y2 (Y1 (Y1 F)):=rfl;rw[a6d];clear a6d m f bM Q bR oR hB3 R X hL3 d0 k0 f0;have a1:(O1 (Y1 F)).length<=16000:=O0;have a2:(Y1 (Y1 F)).length<=16000:=O0;clear hrs a5H a5R;generalize O1 (Y1 F)=b at*;generalize Y1 (Y1 F)=A2 at*
 go_wp2_with fail
 refine wp_region_held_drew (S:=(λu=>u.cell? (aA g4 0)=some (vS (Y2 b)))) Y0 ?_ λhHeld=>?_
 ·exact e0
 iterate 4 refine sq ?_
 refine rq 4 λK E=>?_;go_simp;refine(mY A2 _ O0).mono ?_;rintro e d⟨⟨t,rfl,htl,htq⟩,hbn⟩;have j:Bw I d:=((J4 _ _).drew).trans hbn;have HTQ:=U0 htq;clear hbn htq
 go_wp2_with fail
 clear hHeld;refine X8 E ?_ λhHeld=>?_
 ·exact(j.cell (by exact a5j)).trans e0
 clear E K
 iterate 2 refine sq ?_
 have L:=E5.below bM4 j O0;have oM5:=o9.below oM4 j O0;have e5:=(j.cell (by exact a5j)).trans e0;refine rq 7 λK E=>?_;refine Jc rfl 166 (.tmp 52) (.tmp 51) rfl a 2 rfl [vS (Y2 b),vS (Y2 t)] rfl (λi W=>by rcases i with _|_|i;exact(by rw[L 2 _ rfl];rfl);exact(by rw[L 3 _ rfl];rfl);simp at W;omega) oM5 (by simp[Value.oneCell']) Y0 rfl ?_;clear hHeld;refine X8 E ?_ λhHeld=>?_
 ·exact(P_ _ 2 (aA g4 0) (by show g4≠a;omega)).trans e5
 clear E K;refine wdn ?_;clear hHeld;have hz5:=j.size;have bR5:=E5.below bR4 j O0;have oR5:=o9.below oR4 j O0;have hB5:=P5 hB4 j;have N:=U0 (HXg t HTQ);have HM:E5 (fill d a 2 [vS (Y2 b),vS (Y2 t)]) a ((Xb (Y2 b) (Y2 t)).c none 0):=E5.fill (B:=a) [vS (Y2 b),vS (Y2 t)] [vI 2,vO] [vE,vE] [vE,vE,vE,vN,vO,vE] 2 L rfl rfl;have HR:E5 (fill d a 2 [vS (Y2 b),vS (Y2 t)]) w.heap.size zE:=E5.KY O0 _ 2 bR5;have HO:o9 (fill d a 2 [vS (Y2 b),vS (Y2 t)]) w.heap.size:=o9.fill _ 2 oR5;have hBU:Bw w (fill d a 2 [vS (Y2 b),vS (Y2 t)]):=Ya O0 _ 2 hB5;have hMU:a<(fill d a 2 [vS (Y2 b),vS (Y2 t)]).heap.size:=by rw[qh];omega
 have hRU:w.heap.size<(fill d a 2 [vS (Y2 b),vS (Y2 t)]).heap.size:=by rw[qh];omega
 have HLK:X6 (fill d a 2 [vS (Y2 b),vS (Y2 t)]) none (Xb (Y2 b) (Y2 t)).ls:=.inl rfl;have hle:(Xb (Y2 b) (Y2 t)).le 1048576:=⟨by show(Y2 b).size<=1048576;rw[Y4];omega,by show(Y2 t).size<=1048576;rw[Y4];omega,⟨I4 _,I4 _,I4 _⟩,⟨I4 _,λ_=>⟨I4 _,I4 _⟩⟩,I4 _⟩;have a5B:∀g o,(none:OA)=some (aA g o)->g≠w.heap.size:=λ_ _ h=>by cases h
 clear bM4 oM4 L oM5 bR4 oR4 bR5 oR5 hB4 hB5 j HXg e0 e5;generalize fill d a 2 [vS (Y2 b),vS (Y2 t)]=U at*;generalize Y2 b=C at*;generalize Y2 t=A at*
 go_wp2_with(refine Fa (by rfl) 168 (.tmp 4) rfl a rfl ((Xb C A).c none 0) _ HM underlying168 rfl Y0 ?_)
 refine(VN (Xb C A) none 0 _ hle HLK).mono ?_;rintro e U1⟨⟨z,rfl,hT⟩,x⟩;have HM1:=E5.below HM x hMU;have O:=E5.below HR x hRU;have HO1:=o9.below HO x hRU;have H:=P5 hBU x;have a5C:=Z4 HLK x;clear HM HR HO HLK hBU x;by_cases he:z.data.toList=s.data.toList
 ·have HN:=U0 (Lp N hT HNE he);have e2:z.toList=s.toList:=by rw[ByteArray.toList_eq,ByteArray.toList_eq];exact he
  have e1:(z.toList==s.toList)=true:=by simpa using e2
  clear hT N he
  go_wp2_with(first|refine Nb rfl 168 (.tmp 4) rfl a rfl ((Xb C A).c none 0) _ HM1 underlying168 rfl Y0 ?_|refine J7 rfl 168 (.tmp 2) (.tmp 123) rfl w.heap.size 0 rfl ((Xb C A).c none 0) rfl (g_ O _ rfl) HO1 (u_.wC _ _ _) Y0 rfl ?_)
  exact yJ (Xb C A) none 0 true HN (λh=>by cases h) hle (Nk _ a5C a5B) rfl rfl rfl O H
 have HN:=U0 (uw N hT he);have e2:¬z.toList=s.toList:=by rw[ByteArray.toList_eq,ByteArray.toList_eq];exact he
 have e1:(z.toList==s.toList)=false:=by simpa using e2
 clear hT N he
 go_wp2_with(refine J7 rfl 168 (.tmp 2) (.tmp 122) rfl w.heap.size 0 rfl zE rfl (g_ O zE rfl) HO1 (by simp[zE,Value.oneCell']) Y0 rfl ?_)
 exact Xj HN rfl rfl rfl O H
theorem KW(s:BY)(w:World)(h1:1<=s.size)(h16:s.size<=16000)(hw:O1 ((L8 10 s.data.toList).getD 0 [])=Dk):
 Calls prog 89 #[.string s] w λe w'=>Is4 s.data.toList w' e/\Bw w w':=by
 have hB0:Bw w ((w.alloc (.cells zE.toArray 168)).alloc (.cells zE.toArray 168)):=P6.alloc O4 _;have hsl:s.data.toList.length=s.size:=O4;have HNE:Hid (s.data.toList≠[]):=λh=>by rw[h]at hsl;simp at hsl;omega
 have hse:(s.toList==[])=false:=by
  rw[ByteArray.toList_eq];exact K_.2 HNE.out
 have a5P:¬s.toList=[]:=by simpa using hse
 have a5Q:decide (16000<(s.size:Int))=false:=X7
 go_in
 go_wp2_with fail
 refine(mQ s 10 _ O0).mono ?_;rintro e w1⟨⟨g2,cp,rfl,hg2,hL1⟩,hb1⟩;have a5i:((w.alloc (.cells zE.toArray 168)).alloc (.cells zE.toArray 168)).heap.size=w.heap.size+2:=O4;have Q:Below (w.heap.size+2) ((w.alloc (.cells zE.toArray 168)).alloc (.cells zE.toArray 168)) w1:=hb1.mono O4;have a5l:w.heap.size+2<=g2:=by have h:=hg2;simp at h;omega
 have hz1:w.heap.size+2<=w1.heap.size:=by have h:=Q.size;rw[a5i]at h;exact h
 have bR1:=((I9 w zE 168).below P6 O4).below Q O0;have oR1:=((Rf w zE.toArray 168).below P6 O4).below Q O0;have bM1:=E5.below (by have h:=I9 (w.alloc (.cells zE.toArray 168)) zE 168;simp at h;exact h) Q O0;have oM1:=o9.below (by have h:=Rf (w.alloc (.cells zE.toArray 168)) zE.toArray 168;simp at h;exact h) Q O0;have hB1:=hB0.trans (Q.mono O0);have hcl:=Sm 10 s.data.toList;have hcs:=yh 10 s.data.toList;clear hb1 hg2 a5i Q;obtain⟨f,hLs⟩:∃f,f=L8 10 s.data.toList:=⟨_,rfl⟩;rw[<- hLs]at hL1 hcl hcs hw ⊢;have HLS:=U0 hLs.symm;have HCS:Hid (∀k,(f.getD k []).length<=16000):=λk=>Q8 (hcs k) O0;obtain⟨F,hF⟩:∃F,F=f.getD 0 []:=⟨_,rfl⟩;have HF:=U0 hF.symm;have hFl:F.length<=16000:=by rw[hF];exact HCS.out 0
 rw[<- hF]at hw;have a5m:=hcl.1;have a5I:f.length<=16001:=by have:=hcl.2;omega
 have c0:w1.cell? (aA g2 0)=some (vS (Y2 F)):=by rw[hF];exact hL1.2 0 a5m
 have a5n:=hL1.1;clear hF hLs hcs hcl
 go_wp2_with fail
 refine(Vs F _ O0 1 O0 O0).mono ?_;rintro e P⟨⟨g3,cp3,rfl,hg3,hl3⟩,N⟩;have hz3:=N.size;have bR:=E5.below bR1 N O0;have I:=o9.below oR1 N O0;have C:=E5.below bM1 N O0;have J:=o9.below oM1 N O0;have hL3:=U0 (ug hL1 N);have hB3:=P5 hB1 N;have d0:P.cell? (aA g3 0)=some (vS (Y2 (O1 F))):=hl3.2 0 (by simp[H_]);have a5z:=hl3.1;have hrs:=H8 F;have hrN:Y2 (d_ F 1)=Y2 (Y1 F):=rfl;rw[hrN];clear hrN N bR1 oR1 bM1 oM1 hL1 hB1 hl3 c0 hB0;have hMz:w.heap.size+1<P.heap.size:=O0;have hRB:w.heap.size<w.heap.size+1:=O0;have a5A:w.heap.size+1<g3:=O0;have a5J:w.heap.size+1<g2:=O0;have a5o:g2<P.heap.size:=O0;clear hg3 a5n a5l hz1 hz3;generalize w.heap.size+1=a at*;have HXg:=λq xs c t hq hs=>a2H (l:=s.data.toList) (F:=F) (q:=q) (xs:=xs) (c:=c) (t:=t) (by rw[HLS.out];exact HF.out) hw hq (by rw[HLS.out];exact hs);have HW:=U0 hw;have hes:Y2 (O1 F)=⟨#[114,97,110]⟩:=by rw[hw];rfl
 rw[hes]at d0;clear hw hes;have k0:=C 0 _ rfl;have f0:=J 0;have a5H:=H8 (Y1 F);have a5R:=H8 (Y1 (Y1 F))
 go_wp2_with fail
 refine(Vs (Y1 F) _ O0 2 O0 O0).mono ?_;rintro e w4⟨⟨g4,cp4,rfl,hg4,hl4⟩,L⟩;have D:(P.setCell (aA a 0) (vI 4)).heap.size=P.heap.size:=O4;have hz4:P.heap.size<=w4.heap.size:=by have h:=L.size;rw[D]at h;exact h
 have bM4:=E5.below (C.set 0 (vI 4) (by show 0<10;omega)) L (by rw[D];exact hMz);have oM4:=o9.below (J.set (aA a 0) (vI 4)) L (by rw[D];exact hMz);have bR4:=E5.below (bR.other (aA a 0) (vI 4) (by show a≠w.heap.size;omega)) L (by rw[D];omega);have oR4:=o9.below (I.set (aA a 0) (vI 4)) L (by rw[D];omega);have hB4:=(hB3.setCell (by show w.heap.size<=a;omega) _).trans (L.mono (by rw[D];omega));have a6c:P.heap.size<=g4:=by rw[D]at hg4;exact hg4
 have a5j:=hl4.1;have hL4:Hid (qc w4 g2 f):=⟨O0,λi r=>(L.cell (by rw[D];exact a5o)).trans (qQ (q:=(aA a 0)) (p:=(aA g2 i)) (by show a≠g2;omega) (hL3.out.2 i r) _)⟩;have a6O:=H8 (d_ (Y1 F) 1);have e0:w4.cell? (aA g4 0)=some (vS (Y2 (O1 (Y1 F)))):=hl4.2 0 (by simp[H_]);have e1:w4.cell? (aA g4 1)=some (vS (Y2 (O1 (d_ (Y1 F) 1)))):=hl4.2 1 (by simp[H_]);obtain⟨j0,H,hy0,hy1,hy2⟩:=info_parts iL;have hrl:=Qi (Y1 F);have a1:(O1 (Y1 F)).length<=16000:=O0;have a2:(O1 (d_ (Y1 F) 1)).length<=16000:=by have h:=hrl 1;omega
 have a3:(d_ (Y1 F) 2).length<=16000:=by have h:=hrl 2;omega
 clear L D C J bR I hB3 hl4 hg4 hL3 d0 k0 f0 hrs a5H a5R a6O hrl;generalize d_ (Y1 F) 2=A3 at*;generalize O1 (d_ (Y1 F) 1)=b at*;generalize O1 (Y1 F)=d at*
 go_wp2_with fail
 refine wp_region_held_drew (S:=(λu=>u.cell? (aA g4 0)=some (vS (Y2 d))/\u.cell? (aA g4 1)=some (vS (Y2 b)))) Y0 ?_ λhHeld=>?_
 ·exact⟨e0,e1⟩
 iterate 7 refine sq ?_
 refine rq 7 λK hK=>?_;go_simp;refine(mY A3 _ O0).mono ?_;rintro e m⟨⟨q,rfl,htl,htq⟩,hbn⟩;have n:Bw w4 m:=((J4 _ _).drew).trans hbn;have HTQ:=U0 htq;clear hbn htq
 go_wp2_with fail
 clear hHeld;refine X8 hK ?_ λhHeld=>?_
 ·exact⟨(n.cell (by exact a5j)).trans e0,(n.cell (by exact a5j)).trans e1⟩
 clear hK K
 iterate 2 refine sq ?_
 have bM5:=E5.below bM4 n O0;have oM5:=o9.below oM4 n O0;have e5:=(n.cell (by exact a5j)).trans e0;have e6:=(n.cell (by exact a5j)).trans e1;refine rq 10 λK hK=>?_;refine Jc rfl 68 (.tmp 79) (.tmp 78) rfl a 4 rfl [vS (Y2 d),vS (Y2 b),vS (Y2 q)] rfl (λi r=>by rcases i with _|_|_|i;exact(by rw[bM5 4 _ rfl];rfl);exact(by rw[bM5 5 _ rfl];rfl);exact(by rw[bM5 6 _ rfl];rfl);simp at r;omega) oM5 (by simp[Value.oneCell']) Y0 rfl ?_;clear hHeld;refine X8 hK ?_ λhHeld=>?_
 ·exact⟨(P_ _ 4 (aA g4 0) (by show g4≠a;omega)).trans e5,(P_ _ 4 (aA g4 1) (by show g4≠a;omega)).trans e6⟩
 clear hK K;refine wdn ?_;clear hHeld;have hz5:=n.size;have a6e:=E5.below bR4 n O0;have a6f:=o9.below oR4 n O0;have a6g:=P5 hB4 n;have hL5':=ug hL4 n;have bM6:E5 (fill m a 4 [vS (Y2 d),vS (Y2 b),vS (Y2 q)]) a [vI 4,vO,vE,vE,vS (Y2 d),vS (Y2 b),vS (Y2 q),vN,vO,vE]:=E5.fill (B:=a) [vS (Y2 d),vS (Y2 b),vS (Y2 q)] [vI 4,vO,vE,vE] [vE,vE,vE] [vN,vO,vE] 4 bM5 rfl rfl;have oM6:o9 (fill m a 4 [vS (Y2 d),vS (Y2 b),vS (Y2 q)]) a:=o9.fill _ 4 oM5;have bR6:E5 (fill m a 4 [vS (Y2 d),vS (Y2 b),vS (Y2 q)]) w.heap.size zE:=E5.KY O0 _ 4 a6e;have oR6:o9 (fill m a 4 [vS (Y2 d),vS (Y2 b),vS (Y2 q)]) w.heap.size:=o9.fill _ 4 a6f;have hB6:Bw w (fill m a 4 [vS (Y2 d),vS (Y2 b),vS (Y2 q)]):=Ya O0 _ 4 a6g;have hz6:(fill m a 4 [vS (Y2 d),vS (Y2 b),vS (Y2 q)]).heap.size=m.heap.size:=qh _ _;have hL6:qc (fill m a 4 [vS (Y2 d),vS (Y2 b),vS (Y2 q)]) g2 f:=⟨by rw[hz6];exact hL5'.1,λi r=>(P_ _ 4 (aA g2 i) (by show g2≠a;omega)).trans (hL5'.2 i r)⟩;have a6h:g2<m.heap.size:=O0;have hMw:a<m.heap.size:=O0;rw[<- hz6]at a6h hMw;clear hz6 n bM4 oM4 bM5 oM5 bR4 oR4 a6e a6f hB4 a6g hL5' hL4 e0 e1 e5 e6;generalize fill m a 4 [vS (Y2 d),vS (Y2 b),vS (Y2 q)]=w6 at*;obtain⟨z,a6P⟩:∃z,z=w6.heap.size:=⟨_,rfl⟩;have A:a<z:=O0;have hgB:g2<z:=O0;have X:w.heap.size<z:=O0;clear a6c a5j hz4 hz5 hMz a5o a5z a5A;go_wp2;go_loopw[12] (λi wr=>∃(k:Nat)(xs:List L4)(v:Value)(c:Int)(t:ByteArray),(1<=k/\k<=f.length/\xs.length<=k)/\i=.int .i64 k/\wr.ownsRow z 201 4 v xs.length (jI xs)/\E5 wr a [.int .i64 4,.int .i64 0,.string ⟨#[]⟩,.string ⟨#[]⟩,.string (Y2 d),.string (Y2 b),.string (Y2 q),v,.int .i64 c,.string t]/\o9 wr a/\E5 wr w.heap.size zE/\o9 wr w.heap.size/\qc wr g2 f/\Below w.heap.size w wr/\z<=wr.heap.size/\Hid (zx f k xs c t/\(∀j,(xs.getD j l_).le 1048576)/\t.size<=1048576)) (λi _=>f.length-(RowKit.intOf i).toNat);exact⟨1,[],vN,0,⟨#[]⟩,⟨J9 _,O0,I4 _⟩,rfl,⟨rfl,.inl ⟨rfl,rfl⟩⟩,bM6,oM6,bR6,oR6,hL6,hB6,O0,⟨yR _ _ _,λ_=>⟨I4 _,I4 _⟩,I4 _⟩⟩;clear bM6 oM6 bR6 oR6 hL6 hB6 a6P a6h hMw;obtain⟨k,xs,v,c,t,⟨hk1,hk2,hk3⟩,rfl,hown,C,J,bR,I,O,hB,hz,E⟩:=hrel;by_cases hlt:k<f.length
 ·have ck:=O.2 k hlt;have hT:=HCS.out k;have a5t:=λx h=>kX (x:=x) E.out.1 hk1 hlt h;have a5u:=λx c2 t2 h U hr=>PZ (x:=x) (c2:=c2) (t2:=t2) E.out.1 hk1 hlt h U hr;have a5v:=λx h U=>yX (x:=x) E.out.1 hk1 hlt h U;have a6i:=E.out.2;clear E;generalize f.getD k []=T at*;have a5t:Hid _:=a5t;have a5u:Hid _:=a5u;have a5v:Hid _:=a5v;have HXS:Hid _:=a6i;clear a6i
  go_wp2_with fail
  refine(a2b T _ hT).mono ?_;rintro e w7⟨⟨x,ok,rfl,hls,a6Q⟩,hb7⟩;have HLL:=U0 hls;have a5k:=Pv hown hb7;have hz7:=hb7.size;have a6R:=hb7.mono hz;have R:=P5 hB hb7;have oa:∀o,Below z wr (w7.alloc o):=λo=>a6R.alloc O0 o;clear hls hb7 hown;unfold L4.v;cases ok
  ·have ck7:∀o,(w7.alloc o).cell? (aA g2 k)=some (vS (Y2 T)):=λo=>((oa o).cell (by exact hgB)).trans ck;by_cases U:5<T.length
   ·have h5':decide ((5:Int)<((Y2 T).size:Int))=true:=by rw[Y4];simp;omega
    have h5n:5<=(Y2 T).size:=by rw[Y4];omega
    have hex:(Y2 T).extract 5 (Y2 T).size=Y2 (T.drop 5):=yc (by rw[ext_list,Y4,Q9,p_ O0])
    go_wp2_with fail
    refine(c152 (T.drop 5) _ (by rw[Lj];omega)).mono ?_;rintro e w8⟨⟨c2,t2,rfl,hr8,ht8⟩,y⟩;have HSO:Hid (zx f (k+1) xs c2 t2/\(∀j,(xs.getD j l_).le 1048576)/\t2.size<=1048576):=⟨a5u x c2 t2 HLL U hr8,HXS.out.1,ht8⟩;have a5D:=(oa _).trans (y.mono X7);have a5r:=Pv (a5k.alloc _) y;have hB8:=(R.alloc R.size _).trans (y.mono (by have:=R.size;simp;omega));have hz8:wr.heap.size<=w8.heap.size:=by have h:=y.size;simp at h;omega
    have Z:=C.below a5D A;have V:=J.below a5D A;have k8:=Z 8 _ rfl;have f8:=V 8;have k9:=Z 9 _ rfl;have f9:=V 9;clear hr8 y a5t a5u a5v;go_wp2;go_roundw
    ·exact⟨k+1,xs,v,c2,t2,⟨O0,O0,O0⟩,by go_num,Py (Py a5r (aA a 8) _ A) (aA a 9) _ A,(Z.set 8 (vI c2) (by show 8<10;omega)).set 9 (vS t2) (by show 9<10;omega),(V.set _ _).set _ _,((bR.below a5D X).other _ _ (by show a≠w.heap.size;omega)).other _ _ (by show a≠w.heap.size;omega),((I.below a5D X).set _ _).set _ _,⟨by have:=O.1;simp;omega,λi r=>qQ (q:=(aA a 9)) (p:=(aA g2 i)) (by show a≠g2;omega) (qQ (q:=(aA a 8)) (p:=(aA g2 i)) (by show a≠g2;omega) ((a5D.cell (by exact hgB)).trans (O.2 i r)) _) _⟩,(hB8.setCell (by show w.heap.size<=a;omega) _).setCell (by show w.heap.size<=a;omega) _,X7,HSO⟩
    exact P9
   have h5':decide ((5:Int)<((Y2 T).size:Int))=false:=by rw[Y4];simp;omega
   have HSO:Hid (zx f (k+1) xs c t/\(∀j,(xs.getD j l_).le 1048576)/\t.size<=1048576):=⟨a5v x HLL U,HXS⟩;clear a5t a5u a5v U;go_wp2;go_roundw;exact⟨k+1,xs,v,c,t,⟨O0,O0,O0⟩,by go_num,a5k.alloc _,C.below (oa _) A,J.below (oa _) A,bR.below (oa _) X,I.below (oa _) X,⟨by have:=O.1;simp;omega,λi r=>((oa _).cell (by exact hgB)).trans (O.2 i r)⟩,R.alloc R.size _,X7,HSO⟩;exact P9
  have HSO:Hid (zx f (k+1) (xs++[x]) c t/\(∀j,((xs++[x]).getD j l_).le 1048576)/\t.size<=1048576):=⟨a5t x HLL,λj=>by
   rcases P7 j xs.length with H|H
   ·have:(xs++[x]).getD j l_=xs.getD j l_:=by
     simp only[Fj];rw[R_ H]
    rw[this];exact HXS.out.1 j
   by_cases hj2:j=xs.length
   ·have:(xs++[x]).getD j l_=x:=by
     simp only[Fj];rw[rf H,hj2];simp
    rw[this];exact a6Q
   have:(xs++[x]).getD j l_=l_:=by
    simp only[Fj];rw[Mc X7];rfl
   rw[this];exact⟨I4 _,I4 _⟩,HXS.out.2⟩
  clear a5t a5u a5v;have k7a:=λo=>C.below (oa o) A 7 _ rfl;have oaa:∀o o',Below z wr ((w7.alloc o).alloc o'):=λo o'=>(oa o).alloc X7 o'
  go_wp2_with(at_builtin;refine wpList_append_own _ rfl _ _ 69 rfl z 201 j0 (.agg #[.bool false,.string ⟨#[]⟩,.int .i64 0,.string ⟨#[]⟩]) 4 48 underlying69 H hy0 hy1 hy2 rfl J6 _ _ _ rfl ((a5k.alloc _).alloc _) ⟨w7.heap.size+1,0,none⟩ 1 1 [_,_,_,_] rfl rfl (GY O4 _ _ _ _ _) (by intro u hu;simp at hu;rcases hu with rfl|rfl|rfl|rfl<;>rfl) (by unfold maxLen;omega) O0 X7 ?_;intro v' w8 a5r hgrow _;have y:Below z wr w8:=(oaa _ _).grown hgrow X7 (λj H=>(a5k.lt j H).1);have hB8:Bw w w8:=((R.alloc R.size _).alloc X7 _).grown hgrow X7 (λj H=>by have:=(a5k.lt j H).1;omega);have hz8:w7.heap.size<=w8.heap.size:=(by have:=hgrow.size;simp at this;omega);clear hgrow;obtain⟨g8,cp8,hv8⟩:=Ik a5r O0;subst hv8;have Z:=C.below y A;have V:=J.below y A;have k7:=Z 7 _ rfl;have f7:=V 7)
  go_roundw
  ·refine⟨k+1,xs++[x],vL (some (aA g8 0)) (xs.length+1) cp8,c,t,⟨O0,O0,X7⟩,by go_num,?_,?_,V.set _ _,(bR.below y X).other _ _ (by show a≠w.heap.size;omega),(I.below y X).set _ _,⟨by have:=O.1;simp;omega,λi r=>qQ (q:=(aA a 7)) (p:=(aA g2 i)) (by show a≠g2;omega) ((y.cell (by exact hgB)).trans (O.2 i r)) _⟩,hB8.setCell (by show w.heap.size<=a;omega) _,X7,HSO⟩
   ·rw[L9,EG];exact Py a5r (aA a 7) _ A
   exact Z.set 7 _ (by show 7<10;omega)
  exact P9
 obtain rfl:k=f.length:=O0;have HX:=U0 (HXg q xs c t HTQ E.out.1);have hxl:=E.out.2.1;have htx:=E.out.2.2;obtain⟨ao,Y,hv,hlk⟩:=YK hown rfl;subst hv;have a5B:∀g o,ao=some (aA g o)->g≠w.heap.size:=λg o h=>by
  subst h;have:=(hown.lt g rfl).1;omega
 have HM:E5 wr a ((xg ⟨Y2 d,Y2 b,Y2 q⟩ xs c t).c ao Y):=C;have HR:=bR;have HO:=I;have hBU:=hB;have hMU:a<wr.heap.size:=O0;have hRU:w.heap.size<wr.heap.size:=O0;have HLK:X6 wr ao (xg ⟨Y2 d,Y2 b,Y2 q⟩ xs c t).ls:=hlk.at';have hle:(xg ⟨Y2 d,Y2 b,Y2 q⟩ xs c t).le 1048576:=⟨I4 _,I4 _,⟨by show(Y2 d).size<=1048576;rw[Y4];omega,by show(Y2 b).size<=1048576;rw[Y4];omega,by show(Y2 q).size<=1048576;rw[Y4];omega⟩,⟨by show xs.length<=1048576;omega,hxl⟩,htx⟩;clear E hown hlk C J bR I O hB HXg hxl htx;generalize xg ⟨Y2 d,Y2 b,Y2 q⟩ xs c t=XX at*
 go_wp2_with(refine Fa (by rfl) 168 (.tmp 4) rfl a rfl ((XX).c ao Y) _ HM underlying168 rfl Y0 ?_)
 refine(VN (XX) ao Y _ hle HLK).mono ?_;rintro e U1⟨⟨str,rfl,hT⟩,W⟩;have HM1:=E5.below HM W hMU;have HR1:=E5.below HR W hRU;have HO1:=o9.below HO W hRU;have hB1:=P5 hBU W;have a5C:=Z4 HLK W;clear HM HR HO HLK hBU W;by_cases he:str.data.toList=s.data.toList
 ·have HN:=U0 (Lp HX hT HNE he);have e2:str.toList=s.toList:=by rw[ByteArray.toList_eq,ByteArray.toList_eq];exact he
  have e1:(str.toList==s.toList)=true:=by simpa using e2
  clear hT HX he
  go_wp2_with(first|refine Nb rfl 168 (.tmp 4) rfl a rfl ((XX).c ao Y) _ HM1 underlying168 rfl Y0 ?_|refine J7 rfl 168 (.tmp 2) (.tmp 123) rfl w.heap.size 0 rfl ((XX).c ao Y) rfl (g_ HR1 _ rfl) HO1 (u_.wC _ _ _) Y0 rfl ?_)
  exact yJ (XX) ao Y true HN (λh=>by cases h) hle (Nk _ a5C a5B) rfl rfl rfl HR1 hB1
 have HN:=U0 (uw HX hT he);have e2:¬str.toList=s.toList:=by rw[ByteArray.toList_eq,ByteArray.toList_eq];exact he
 have e1:(str.toList==s.toList)=false:=by simpa using e2
 clear hT HX he
 go_wp2_with(refine J7 rfl 168 (.tmp 2) (.tmp 122) rfl w.heap.size 0 rfl zE rfl (g_ HR1 zE rfl) HO1 (by simp[zE,Value.oneCell']) Y0 rfl ?_)
 exact Xj HN rfl rfl rfl HR1 hB1
