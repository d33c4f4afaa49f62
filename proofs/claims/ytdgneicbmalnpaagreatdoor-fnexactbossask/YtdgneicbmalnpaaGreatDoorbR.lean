import Derived.Test.YtdgneicbmalnpaaGreatDoorbN
import Derived.Test.YtdgneicbmalnpaaGreatDoorbF
set_option linter.all false
set_option maxHeartbeats 0
set_option maxRecDepth 99999
open Go.Value renaming slice->Sa,string->Sb,int->Sc,pointer->Sd
open Go.IntKind renaming i64->Se
open Go.Obj renaming cells->Sg
namespace Go.Proofs.YtdgneicbmalnpaaGreatDoor
open Proofs.Tryz Go.RowKit Go.Maps Go.Sort Go.Shelf
variable{b:Bs}{q:Ba}{A D:Nat}{x:BY}{w w1:World}{vs:List Value}{Rs:List Nat}{is:List Rn}{js:List Jb}{o:Int×Option Bs}{e:Ending}
theorem nK(a b:BY):Op.bytesLess a.toList b.toList=Bj a b:=by
 rw[BH,ByteArray.toList_eq,ByteArray.toList_eq];rfl
theorem QR{f g:Nat->ByteArray}{n m:Nat}(hf:∀i j,i<j->j<n->Bj (f i) (f j)=true)(o:∀i j,i<j->j<m->Bj (g i) (g j)=true)(h:∀i,i<n->∃j,j<m/\g j=f i):n<=m:=by
 have H:∀i,i<n->∃j,j<m/\g j=f i/\i<=j:=λi=>by
  induction i with
  | zero=>
   intro a;obtain⟨j,h1,h2⟩:=h 0 a;exact⟨j,h1,h2,Y4 _⟩
  | succ i ih=>
   intro a;obtain⟨k,l,d,k3⟩:=ih (by omega);obtain⟨j,h1,h2⟩:=h (i+1) a;have b:=hf i (i+1) (Vj i) a;have:k<j:=by
    rcases Jt k j with e|rfl|e
    ·exact e
    ·rw[<- d,<- h2,Eh]at b;cases b
    have c:=o j k e l;rw[d,h2]at c;have:=Vx b c;rw[Eh]at this;cases this
   exact⟨j,h1,h2,by omega⟩
 rcases wu n with rfl|h0
 ·exact Y4 _
 obtain⟨j,h1,_,c⟩:=H (n-1) (by omega);omega
theorem yY(h:VIm b true):((∀i j,i<j->j<b.rn.length->Bj (b.rn.getD i L9).nm (b.rn.getD j L9).nm=true)/\b.rn.length<=1000)/\(∀i j,i<j->j<b.jb.length->Bj (b.jb.getD i Ea).nm (b.jb.getD j Ea).nm=true)/\b.jb.length<=1000:=by
 rcases h with⟨h,_⟩|⟨_,m,_,h⟩
 ·cases h
 obtain⟨_,_,h⟩:=h.1 rfl;rcases h with⟨_,_,_,_,ms,c,hr,e⟩|⟨_,d⟩
 ·have g:=Yh (l:=b.rn) (d:=L9) (f:=λx=>x.nm) (λi a h0=>(hr i a).2.2 h0);have R:∀i j,i<j->j<b.rn.length->Bj (b.rn.getD i L9).nm (b.rn.getD j L9).nm=true:=λi j h1 h2=>(nK _ _).symm.trans (g j i h1 h2);have J:∀i j,i<j->j<b.jb.length->Bj (b.jb.getD i Ea).nm (b.jb.getD j Ea).nm=true:=λi j h1 h2=>by
   rw[<- nK]
   cases hq:Op.bytesLess (b.jb.getD i Ea).nm.toList (b.jb.getD j Ea).nm.toList with
   | true=>rfl
   | false=>exact absurd (.inr hq) ((e j h2).1 i h1)
  have hm:=G.jA c;have l1:=QR R (λi j h1 h2=>(nK _ _).symm.trans (G.jH c i j h1 h2)) (λi a=>(hr i a).1);have l2:=QR J R (λi a=>by obtain⟨t,h1,h2⟩:=(e i a).2.1;exact⟨t,h1,h2.1⟩);exact⟨⟨R,by omega⟩,J,by omega⟩
 obtain⟨_,_,_,_,_,_,e1,k⟩:=d;rw[e1,k];exact⟨⟨λi j h1 h2=>absurd h2 (U8 _),U5⟩,λi j h1 h2=>absurd h2 (U8 _),U5⟩
theorem a1q(h:VIm b true):b.rt.length<=10:=by
 rcases h with⟨h,_⟩|⟨_,m,_,h⟩
 ·cases h
 obtain⟨_,_,h⟩:=h.1 rfl;rcases h with⟨_,_,_,h,_⟩|⟨_,d⟩
 ·exact h.1
 rw[d.2.2.2.2.2.1];exact U5
theorem zY{R:List Value}{E:Ending}(h:gu b q D R x A w E w1):E=Ut\/∃k,(k=2\/k=3)/\E=Rf k/\Vh b x true=(k,none)/\w1=w:=by
 cases h with
 | there _ _=>exact .inl rfl
 | new _ _ _=>exact .inl rfl
 | down h=>
  refine .inr ⟨2,.inl rfl,rfl,?_,rfl⟩;unfold Vh;have e:(b.up&&Y5 x.data.toList)=false:=by rw[Uf];intro e;exact h (by simpa using e)
  simp[e]
 | full h hm hl=>
  refine .inr ⟨3,.inr rfl,rfl,?_,rfl⟩;unfold Vh;have e:G.QA b.rt x=false:=Uf.2 (λe=>hm (G.Zc.1 e));simp[h.1,h.2,e,hl]
theorem a0X{u a:World}{m1 m2 j:Nat}{pv:Value}(h:kD A b w D m1 m2 q pv vs Rs j u)(hA:A<=u.heap.size)(hwA:w.heap.size<=A)(hk:gu b q D (pv::XV m1 m2) x A (u.alloc (Sg #[Sc Se 0] 3)) Ut w1)(ho:Jr u.heap.size w1 a):
 ∃b' B,Vh b x true=(0,some b')/\b'.rn=b.rn/\b'.jb=b.jb/\kD A b' w D m1 m2 B pv vs Rs j a:=by
 cases hk with
 | there hk hm=>
  refine⟨b,q,?_,rfl,rfl,h.below (U6.trans (ho.below (Y7 _))) hA⟩;unfold Vh;simp[hk.1,hk.2,G.Zc.2 hm]
 | new hk hm hl _ oa oc hC hown hv hs os hkk=>
  have hs':u.heap.size+1<=w1.heap.size:=by have e:(u.alloc (Sg #[Sc Se 0] 3)).heap.size=u.heap.size+1:=J4;omega
  have K:∀p,p<u.heap.size->p≠D->(Sa q.oa b.rt.length q.oc).ownBlock≠some p->a.heap[p]?=u.heap[p]?:=λp d hD f=>(ho.block p (by omega)).trans ((hkk p (by simp;omega) hD f).trans (Ip _ _ p d));have v:∀p t,oh u p t->t≠139->(Sa q.oa b.rt.length q.oc).ownBlock≠some p->a.heap[p]?=u.heap[p]?:=λp t hT ht f=>K p (Ld hT) (λe=>by subst e;exact ht (N8 hT h.cl.t)) f;have z:∀p t,oh u p t->t≠9/\t≠139->a.heap[p]?=u.heap[p]?:=λp t hT ht=>v p t hT ht.2 (λe=>ht.1 (N8 hT (X6 h.rw.rt e)));have y:∀{m n:Nat}{l:List (ByteArray×Value)},u.ownsMap prog 9 h_ m n (mapD l)->a.ownsMap prog 9 h_ m n (mapD l):=λo=>by
   obtain⟨es,c,hm⟩:=Ic o;have hl:=o.lt;obtain⟨I,L,C,r⟩:=o;refine⟨I,L,(K _ hl (λe=>?_) (λe=>?_)).trans C,r⟩
   ·have h2:=h.cl;unfold Cl at h2;rw[<- e,hm]at h2;cases h2
   obtain⟨cur,fr,s⟩:=X6 h.rw.rt e;rw[hm]at s;cases s
  have e1:(Sa oa (b.rt.length+1) oc).ownBlock=(Sa q.oa b.rt.length q.oc).ownBlock\/∃p,u.heap.size<=p/\(Sa oa (b.rt.length+1) oc).ownBlock=some p:=hv.imp id λ⟨p,h1,h2⟩=>⟨p,by simp at h1;omega,h2⟩;have E:Bw w a:=⟨ho.os.trans (os.1.trans h.bw.os),ho.tape.trans (os.2.1.trans h.bw.tape),ho.output.trans (os.2.2.trans h.bw.output),by have:=h.bw.size;have:=ho.size;omega,λp d=>(K p (by have:=h.bw.size;omega) (by have:=h.hD;omega) (λe=>by have:=X4 h.rw.rt e;omega)).trans (h.bw.block p d)⟩;have F:a.ownsRow A 9 1 (Sa oa (b.rt.length+1) oc) (b.rt.length+1) (b.rt.map Sb++[Sb x]):=Z4 hown (λp d=>ho.block p (λe=>by
   rcases e1 with J|⟨p',h1,h2⟩
   ·have:=o_ h.rw.rt (J.symm.trans d);omega
   have h3:=X6 hown d;subst e;rw[h2]at d;cases d;rcases hv with hv|⟨p2,H,k⟩
   ·have:=o_ h.rw.rt (hv.symm.trans h2);omega
   rw[h2]at k;cases k;simp at H;omega))
  refine⟨uF b x,{q with oa:=oa,oc:=oc},?_,rfl,rfl,{ cl:=hC.on ho (by have:=h.cl.lt;omega),rw:=a0h h.rw (by have:=ho.size;omega) v F e1,gg:=h.gg.keep (λp t hT ht _=>z p t hT (by rcases ht with rfl|rfl<;>decide)),le:=h.le,rs:=λi g=>(z _ 119 (h.rs i g).t U5).trans (h.rs i g),o1:=y h.o1,o2:=y h.o2,bw:=E,hD:=h.hD,h1:=h.h1,h2:=h.h2,ne:=h.ne }⟩;unfold Vh;have e:G.QA b.rt x=false:=Uf.2 (λe=>hm (G.Zc.1 e));simp[hk.1,hk.2,e,hl]
theorem AY(h:∀i j,i<j->j<is.length->Bj (is.getD i L9).nm (is.getD j L9).nm=true):Asc (Ku is Rs):=by
 unfold Asc;rw[iF];intro i j c b d;have a:i<is.length/\j<is.length:=by unfold Ku at c b;simp at c b;omega
 have:=h i j d a.2;simp only[List.getD,V8 a.1,V8 a.2,Dc]at this;simpa[Ku]using this
theorem a0P(h:∀i j,i<j->j<js.length->Bj (js.getD i Ea).nm (js.getD j Ea).nm=true):Asc (js.map gJ):=by
 unfold Asc;rw[iF];intro i j d b c;have a:i<js.length/\j<js.length:=by simp at d b;omega
 have:=h i j c a.2;simp only[List.getD,V8 a.1,V8 a.2,Dc]at this;simpa[gJ]using this
theorem a1v(h:∀i,(is.getD i L9).nm.size<=maxLen):∀p∈Ku is Rs,p.1.size<=maxLen:=λp a=>by
 unfold Ku at a;obtain⟨⟨x,r⟩,hx,rfl⟩:=Rh.1 a;obtain⟨i,b,e⟩:=zG.1 (List.of_mem_zip hx).1;have:=h i;rw[List.getD,V8 b,Dc,e]at this;exact this
theorem a2l(h:∀i,(js.getD i Ea).nm.size<=maxLen):∀p∈js.map gJ,p.1.size<=maxLen:=λp a=>by
 obtain⟨x,hx,rfl⟩:=Rh.1 a;obtain⟨i,b,e⟩:=zG.1 hx;have:=h i;rw[List.getD,V8 b,Dc,e]at this;exact this
theorem Zu.on{A' B:Nat}{z:World}(h:Zu A o e w)(k:Jr B w z)(hB:B<A)(hA:A'<=A):Zu A' o e z:=by
 obtain⟨c,o⟩:=o
 cases o with
 | none=>exact h
 | some b=>
  obtain⟨a,d,h⟩:=h;exact⟨a,d,h.mv (Fq.on k (.inl hB)) hA⟩
theorem xY(h:Zu A o e w):∃vs:List Value,e=.returned (.agg vs.toArray)/\vs.length=18/\vs.all Value.oneCell'=true:=by
 obtain⟨c,o⟩:=o
 cases o with
 | none=>exact⟨_,h,rfl,rfl⟩
 | some b=>
  obtain⟨q',a,_⟩:=h;exact⟨_,a,rfl,rfl⟩
theorem i51(h:vs.length=18):(prog.info? 51).map (·.size)=some vs.length:=by rw[h];exact Y0
theorem c31(b:Bs)(q:Ba)(x:BY)(g j:Nat)(w:World)(hl:lg b 1048576)(hx:x.size<=1048576)(hsl:b.sf.length+b.lo.length<=1048576)(hcp:PN b q)(hv:G.Vk w)(U:jh w b q)(K:w.cell? ⟨g,j,none⟩=some (Sb x)):
 Calls prog 31 #[.agg (bsV b q).toArray,.func (.func 32) #[] #[Sd (some ⟨g,j,none⟩)]] w λe w'=>(∃r,VIm b r/\Zu w.heap.size (Vh b x r) e w')/\Bw w w':=by
 have Q:=U0 U;have f:=U0 hl;have L:=U0 hv;have N:Hid (∀u,Bw w u->u.cell? ⟨g,j,none⟩=some (Sb x)):=λu F=>(F.cell (by
  rcases Z7 g w.heap.size with h|h
  ·exact h
  simp[World.cell?,Qo h]at K)).trans K
 clear U hl hv K
 go_in
 go_upto_region 1 with fail
 have C:=U0 (E8 (I4 w (bsV b q) 47) (Sg #[Sc Se 0,Sc Se 0,.bool false,Sc Se 0,Sc Se 0,Sc Se 0,Sa none 0 0,Sa none 0 0,Sa none 0 0,Sc Se 0,Sa none 0 0,Sa none 0 0,Sa none 0 0,Sa none 0 0,Sa none 0 0,Sa none 0 0,Sa none 0 0,Sa none 0 0] 51));have R:=U0 (show Cl ((w.alloc (Sg (bsV b q).toArray 47)).alloc (Sg #[Sc Se 0,Sc Se 0,.bool false,Sc Se 0,Sc Se 0,Sc Se 0,Sa none 0 0,Sa none 0 0,Sa none 0 0,Sc Se 0,Sa none 0 0,Sa none 0 0,Sa none 0 0,Sa none 0 0,Sa none 0 0,Sa none 0 0,Sa none 0 0,Sa none 0 0] 51)) (w.heap.size+1) 51 (diV 0 bz) from Oh (xs:=diV 0 bz) J4);have a:Hid (Bw w ((w.alloc (Sg (bsV b q).toArray 47)).alloc (Sg #[Sc Se 0,Sc Se 0,.bool false,Sc Se 0,Sc Se 0,Sc Se 0,Sa none 0 0,Sa none 0 0,Sa none 0 0,Sc Se 0,Sa none 0 0,Sa none 0 0,Sa none 0 0,Sa none 0 0,Sa none 0 0,Sa none 0 0,Sa none 0 0,Sa none 0 0] 51))):=U6.alloc J4 _;generalize (w.alloc (Sg (bsV b q).toArray 47)).alloc (Sg #[Sc Se 0,Sc Se 0,.bool false,Sc Se 0,Sc Se 0,Sc Se 0,Sa none 0 0,Sa none 0 0,Sa none 0 0,Sc Se 0,Sa none 0 0,Sa none 0 0,Sa none 0 0,Sa none 0 0,Sa none 0 0,Sa none 0 0,Sa none 0 0,Sa none 0 0] 51)=V at*
 go_wp2_with(refine D9 C.o rfl 47 _ rfl (j:=0) (bsV b q) rfl rfl underlying47 rfl Y0 ?_)
 refine(c75 b q V f.o hsl hcp (L.o.below a.o) (Q.o.below a.o)).mono ?_;rintro e V1⟨Z,n⟩;obtain⟨r,rfl,hr⟩:=a1N Z;have y:=U0 hr
 replace C:=U0 (C.o.below n C.o.lt)
 replace R:=U0 (R.o.below n R.o.lt)
 replace a:=U0 (E5 a.o n)
 clear n Z hr;cases r
 ·go_wp2_with(refine N7 rfl 51 _ _ rfl (B:=w.heap.size+1) (j:=0) rfl rfl R.o A8 (X5 rfl) Y0 ?_;intro z s m)
  have t:Cl z (w.heap.size+1) 51 (diV 1 bz):=s;exact P7 (l7 (P:=prog) (ty:=51) rfl _ z (w.heap.size+1) (diV 1 bz) _ rfl t.blk underlying51 rfl Y0) rfl ⟨⟨false,y.o,rfl⟩,a.o.trans (m.below O0)⟩
 have l:=U0 (yY y.o);have hrt:=a1q y.o
 go_upto_region 3 with fail
 go_wp2_with(refine D9 C.o rfl 47 _ rfl (j:=0) (bsV b q) rfl rfl underlying47 rfl Y0 ?_)
 refine(c76 b q V1 f.o (L.o.below a.o) (Q.o.below a.o) l.o.1.1 l.o.2.1 (λi hi=>by have:=(f.o.ns i).1;unfold maxLen;omega) (λi hi=>by have:=f.o.js i;unfold maxLen;omega) l.o.1.2 l.o.2.2 (λu F=>by
  refine(G.c127 q.fa q.fc b.fs u f.o.fl f.o.fz (Q.o.below (E5 a.o F)).fs (L.o.below (E5 a.o F))).mono ?_;rintro e u'⟨⟨ms,v,rfl,ho,_⟩,n⟩;obtain⟨pa,pc,rfl⟩:=x9 ho;exact⟨⟨_,_,_,rfl⟩,n⟩)).mono ?_
 rintro e V2⟨D,m1,m2,q1,pv,vs,Rs,rfl,X,hD⟩;have A:=U0 hD;have HRS:=U0 X;have hVs:=a.o.size;have W:=hD.bw.size;clear hD X
 go_upto_region 4 with fail
 go_wp2_with fail
 refine(c77 b q1 D g j (pv::XV m1 m2) x V1.heap.size V2 W hx (by omega) A.o.cl A.o.rw.rt (N.o _ (E5 a.o A.o.bw))).mono ?_;rintro e V3⟨c,w1,hk,rfl,ho⟩;generalize hE:(if c=0 then Ut else Rf c)=E at hk;rcases zY hk with rfl|⟨k,hk2,rfl,ha,hw⟩;rotate_left
 ·have hc:c=k:=by
   by_cases h0:c=0
   ·rw[D8 h0]at hE;cases hE
   rw[U7 h0]at hE;cases hE;rfl
  subst hc hw;have hc0:c≠0:=by omega
  have d:=U0 (E5 A.o.bw (U6.trans (ho.below (Y7 _))));have R3:=U0 (R.o.below d.o R.o.lt);have O:=U0 ha;clear ha ho hk hE
  go_wp2_with(refine N7 rfl 51 _ _ rfl (B:=w.heap.size+1) (j:=0) rfl rfl R3.o A8 (X5 rfl) Y0 ?_;intro z s m)
  have t:Cl z (w.heap.size+1) 51 (diV c bz):=s;exact P7 (l7 (P:=prog) (ty:=51) rfl _ z (w.heap.size+1) (diV c bz) _ rfl t.blk underlying51 rfl Y0) rfl ⟨⟨true,y.o,by rw[O.o];rfl⟩,(E5 a.o d.o).trans (m.below O0)⟩
 have hc:c=0:=by
  by_cases h0:c=0
  ·exact h0
  rw[U7 h0]at hE;cases hE
 subst hc;obtain⟨b',q',ha,e1,e2,hD⟩:=a0X A.o W (Y7 _) hk ho;have O:=U0 ha;have o:=U0 hD;have I:=U0 e1;have H:=U0 e2;have d:=U0 (E5 a.o hD.bw);have hV3:=hD.bw.size;have hDD:=hD.hD
 replace N:=U0 (R.o.below hD.bw R.o.lt)
 have hRl:=R.o.lt;clear ha ho hk hE hD e1 e2
 go_upto_region 7 with fail
 go_wp2_with fail
 refine(c78 b' q' D m1 m2 Rs.length b'.jb.length V1.heap.size pv vs Rs V3 hV3 o.o.cl o.o.rw o.o.gg (by rw[I.o];exact HRS.o) o.o.rs o.o.o1 (by have h:=o.o.o2;rw[H.o]at h ⊢;rwa[List.take_length]at h) (AY (by rw[I.o];exact l.o.1.1)) (a0P (by rw[H.o];exact l.o.2.1)) (a1v (by rw[I.o];intro i;have:=(f.o.ns i).1;unfold maxLen;omega)) (a2l (by rw[H.o];intro i;have:=f.o.js i;unfold maxLen;omega)) (by rw[I.o];exact l.o.1.2) (by rw[H.o];exact l.o.2.2)).mono ?_;rintro e V4⟨⟨J,rfl,Y⟩,hF⟩;have HR2:=U0 Y;have R4:=U0 (hF.cl N.o (by omega));have B4:Hid (Bw w V4):=⟨hF.1.1.trans d.o.os,hF.1.2.1.trans d.o.tape,hF.1.2.2.trans d.o.output,X7 d.o.size hF.2.1,λp S=>(hF.2.2 p (P9 S d.o.size) (by omega)).trans (d.o.block p S)⟩;clear hF Y
 go_wp2_with(refine N7 rfl 51 _ _ rfl (B:=w.heap.size+1) (j:=0) rfl rfl R4.o A8 (X5 rfl) Y0 ?_;intro z s m)
 have t:Cl z (w.heap.size+1) 51 (diV 0 (bsV b' J)):=s;exact P7 (l7 (P:=prog) (ty:=51) rfl _ z (w.heap.size+1) (diV 0 (bsV b' J)) _ rfl t.blk underlying51 rfl Y0) rfl ⟨⟨true,y.o,by rw[O.o];exact⟨J,rfl,HR2.o.mv (Fq.on m (.inl hRl)) hVs⟩⟩,B4.o.trans (m.below O0)⟩
theorem c7(b:Bs)(q:Ba)(x:BY)(w:World)(hl:lg b 1048576)(hx:x.size<=1048576)(k:b.sf.length+b.lo.length<=1048576)(m:PN b q)(hv:G.Vk w)(g:jh w b q):
 Calls prog 7 #[.agg (bsV b q).toArray,Sb x] w λe w'=>(∃r,VIm b r/\Zu w.heap.size (Vh b x r) e w')/\Bw w w':=by
 have u:=U0 g;have s:=U0 hl;have o:=U0 hv;clear g hl hv;have hmf:∀(fn:Fn)(first cap:Array Value)(w:World),(Instr.makeFunc fn first cap).run prog w=.ok (.func fn first cap) w:=λ_ _ _ _=>rfl
 go_in
 go_upto_region 1 with fail
 obtain⟨V,hV⟩:∃V,V=((w.alloc (Sg (bsV b q).toArray 47)).alloc (Sg #[Sb x] 9)).alloc (Sg #[Sc Se 0,Sc Se 0,.bool false,Sc Se 0,Sc Se 0,Sc Se 0,Sa none 0 0,Sa none 0 0,Sa none 0 0,Sc Se 0,Sa none 0 0,Sa none 0 0,Sa none 0 0,Sa none 0 0,Sa none 0 0,Sa none 0 0,Sa none 0 0,Sa none 0 0] 51):=⟨_,rfl⟩;have C:Hid (Cl V w.heap.size 47 (bsV b q)):=by rw[hV];exact E8 (E8 (I4 w (bsV b q) 47) _) _
 have N:Hid (Cl V (w.heap.size+1) 9 [Sb x]):=by rw[hV];exact E8 (Oh (xs:=[_]) J4) _
 have R:Hid (Cl V (w.heap.size+2) 51 (diV 0 bz)):=by rw[hV];exact Oh (xs:=diV 0 bz) J4
 have a:Hid (Bw w V):=by rw[hV];exact(U6.alloc J4 _).alloc L8 _
 rw[<- hV];clear hV
 go_wp2_with(refine D9 C.o rfl 47 _ rfl (j:=0) (bsV b q) rfl rfl underlying47 rfl Y0 ?_)
 refine(c31 b q x (w.heap.size+1) 0 V s.o hx k m (o.o.below a.o) (u.o.below a.o) (N.o.cell 0)).mono ?_;rintro e V2⟨⟨r,hr,hF⟩,d⟩;obtain⟨vs,rfl,h,h1⟩:=xY hF;have p:=U0 hr;have t:=U0 hF;have v:=U0 h1;have c:=U0 h;have l:=R.o.lt;have n:=a.o.size
 replace R:=U0 (R.o.below d R.o.lt)
 replace a:=U0 (E5 a.o d)
 clear d hF h1 h hr
 go_wp2_with(refine N7 rfl 51 _ _ rfl (B:=w.heap.size+2) (j:=0) rfl (vs:=vs) rfl R.o (by rw[c.o];decide) (X5 v.o) (i51 c.o) ?_;intro z i f;rw[LY c.o]at i)
 exact P7 (l7 (P:=prog) (ty:=51) rfl _ z (w.heap.size+2) vs _ rfl i.blk underlying51 rfl (i51 c.o)) rfl ⟨⟨r,p.o,t.o.on f l n⟩,a.o.trans (f.below O0)⟩
def bs0:Bs:=⟨0,false,0,0,0,[],[],[],⟨0,[],[]⟩,[],[],[],[]⟩
def ba0:Ba:=⟨none,0,none,0,none,0,none,0,none,0,none,0,none,0,none,0,none,0⟩
theorem ne_nil{v:Value}:NE (Sa none 0 0) v:=λp h=>by cases h
theorem zz:(0:Nat)<=1048576:=by decide
theorem a3w(A:Nat)(w:World):WC A w bs0 ba0:=
 { sf:=M_ _ _ _ _,lo:=M_ _ _ _ _,fs:=⟨.inl rfl,.inl rfl⟩,st:=⟨M_ _ _ _ _,[],rfl,M_ _ _ _ _,λi a=>absurd a (U8 _),λi j a=>absurd a (U8 _)⟩,hd:=M_ _ _ _ _,rt:=M_ _ _ _ _,rn:=⟨[],rfl,M_ _ _ _ _,λi a=>absurd a (U8 _),λ_ _=>rfl,λi j a=>absurd a (U8 _)⟩,jb:=M_ _ _ _ _,n1:=ne_nil,n2:=ne_nil,n3:=ne_nil,n4:=ne_nil,n5:=ne_nil,n6:=ne_nil }
theorem CQ(h:Zu A o e w):∃a,e=.returned (.agg (diV o.1 (bsV (o.2.getD bs0) a)).toArray)/\WC A w (o.2.getD bs0) a:=by
 obtain⟨c,o⟩:=o
 cases o with
 | none=>exact⟨ba0,h,a3w A w⟩
 | some b=>exact h
theorem a1g{r:Bool}(hl:lg b 1048576)(hx:x.size<=1048576)(h:VSp b r):lg ((Vh b x r).2.getD bs0) 1048576:=by
 have h0:lg bs0 1048576:={ sl:=zz,ss:=λ_=>zz,ll:=zz,ls:=λ_=>zz,fl:=zz,fz:=λ_=>⟨zz,zz⟩,st:=⟨⟨zz,λ_=>zz⟩,zz,λ_=>⟨zz,zz,λ_=>⟨zz,zz⟩,zz⟩⟩,hl:=zz,rl:=zz,rs:=λ_=>zz,nl:=zz,ns:=λ_=>⟨zz,zz,⟨zz,λ_=>⟨zz,zz⟩⟩,zz⟩,jl:=zz,js:=λ_=>zz };unfold Vh
 cases r with
 | false=>exact h0
 | true=>
  rw[U7 (by decide)];by_cases h1:(b.up&&Y5 x.data.toList)=false
  ·rw[D8 h1];exact h0
  rw[U7 h1];by_cases h2:G.QA b.rt x=true
  ·rw[D8 h2];exact hl
  rw[U7 h2];by_cases c:b.rt.length=10
  ·rw[D8 c];exact h0
  rw[U7 c];have h4:=jV h (by cases d:b.up with|true=>rfl|false=>rw[d]at h1;exact absurd rfl h1);have g:(b.rt++[x]).length<=1048576:=by simp;omega
  have f:∀i,((b.rt++[x]).getD i ByteArray.empty).size<=1048576:=λi=>by
   rcases Jt i b.rt.length with e|e|e
   ·have a:(b.rt++[x]).getD i ByteArray.empty=b.rt.getD i ByteArray.empty:=by simp only[List.getD,D_ e]
    rw[a];exact hl.rs i
   ·subst e;have a:(b.rt++[x]).getD b.rt.length ByteArray.empty=x:=by simp[List.getD]
    rw[a];exact hx
   have a:(b.rt++[x]).getD i ByteArray.empty=ByteArray.empty:=by simp[List.getD,Eb (show(b.rt++[x]).length<=i by simp;omega)]
   rw[a];exact zz
  exact { hl with rl:=g,rs:=f }
theorem c3(b:Bs)(q:Ba)(x:BY)(w:World)(hl:lg b 9223372036854775807)(hx:x.size<=9223372036854775807)(hv:G.Vk w)(hat:jh w b q):
 Calls prog 3 #[.agg (bsV b q).toArray,Sb x] w λe w'=>e=.returned (.bool true)/\Bw w w':=by
 have R:=U0 hat;have HL0:=U0 hl;have HV:=U0 hv;clear hat hl hv;by_cases W:x.size<=1048576;rotate_left
 ·have hx1:(1048576:Int)<x.size:=by omega
  go_in
  go_wp2;go_ret;exact⟨rfl,U6⟩
 have hx1:¬(1048576:Int)<x.size:=by omega
 go_in
 go_upto_region 4 with fail
 have i:=U0 (I4 w (bsV b q) 35);have E:=U0 (U6 (w:=w) (o:=Sg (bsV b q).toArray 35));generalize w.alloc (Sg (bsV b q).toArray 35)=V at*
 go_wp2_with(refine D9 i.o rfl 35 _ rfl (j:=0) (bsV b q) rfl rfl underlying35 rfl Y0 ?_)
 refine(c4 b q 1048576 V U5 U5 HL0.o (R.o.below E.o)).mono ?_;rintro e w1⟨⟨r0,rfl,hr⟩,a⟩
 replace i:=U0 (i.o.below a i.o.lt)
 replace E:=U0 (E5 E.o a)
 have HR:=U0 hr;clear hr a;by_cases hn:r0<0
 ·go_wp2;go_ret;exact⟨rfl,E.o⟩
 have H:=U0 (HR.o O0).1;have hsl:=(HR.o O0).2;clear HR HL0
 go_upto_region 7 with fail
 go_wp2_with(refine D9 i.o rfl 35 _ rfl (j:=0) (bsV b q) rfl rfl underlying35 rfl Y0 ?_)
 refine(c6 b q w1 H.o (R.o.below E.o)).mono ?_;rintro e w2⟨⟨q1,rfl,ha1,hc1,_⟩,a⟩;have H5:=U0 (c5 b q1 x w2 H.o W hsl hc1 ha1)
 replace i:=U0 (i.o.below a i.o.lt)
 replace E:=U0 (E5 E.o a)
 clear a ha1 hc1
 go_wp2_with fail
 refine H5.o.mono ?_;rintro e w3⟨⟨r,hvr,hd⟩,a⟩;obtain⟨J,rfl,hF⟩:=CQ hd;have VR:=U0 hvr;have I:=U0 (a1g H.o W hvr);have hDF:Hid (∀(A:Nat)(u:World)(e:Ending),Zu A (Vh b x r) e u->∃q',e=.returned (.agg (diV (Vh b x r).1 (bsV ((Vh b x r).2.getD bs0) q')).toArray)/\WC A u ((Vh b x r).2.getD bs0) q'):=λ_ _ _ h=>CQ h;clear hd;generalize (Vh b x r).1=d at hDF ⊢;generalize (Vh b x r).2.getD bs0=b' at hDF I hF ⊢;have A0:=U0 hF.at
 replace i:=U0 (i.o.below a i.o.lt)
 replace E:=U0 (E5 E.o a)
 clear a hvr hF H5
 go_upto_region 8 with(refine N7 rfl 51 _ _ rfl (j:=0) rfl rfl (I4 w3 (diV 0 bz) 51) A8 (X5 rfl) Y0 ?_;intro z k D)
 have g:Hid (∀u,Bw z u->(Cl u w.heap.size 35 (bsV b q)/\Cl u w3.heap.size 51 (diV d (bsV b' J)))/\jh u b' J/\Bw w u):=by
  have bz:=U6.trans (D.below A8);exact λu f=>⟨⟨(i.o.below bz i.o.lt).below f (P9 i.o.lt bz.size),k.below f k.lt⟩,(A0.o.below bz).below f,E5 (E5 E.o bz) f⟩
 clear k D i E A0
 go_wp2_with(refine D9 (g.o _ (O4 _ _)).1.1 rfl 35 _ rfl (j:=0) (bsV b q) rfl rfl underlying35 rfl Y0 ?_)
 refine(c6 b q z H.o (R.o.below (g.o _ (O4 _ _)).2.2)).mono ?_;rintro e N⟨⟨F,rfl,ha2,hc2,ho2⟩,a⟩
 go_upto_region 9 with(refine N7 rfl 47 _ _ rfl (j:=0) rfl rfl (I4 N bz 47) A8 (X5 rfl) Y0 ?_;intro z4 k D)
 obtain⟨vr2,lr2,vn2,ln2,hw2⟩:=a6B ho2;have l:Hid (∀u,Bw z4 u->Cl u N.heap.size 47 (bsV b F)/\jh u b F/\BW z.heap.size N.heap.size u b F vr2 lr2 vn2 ln2/\Bw z u):=by
  have bz:=U6.trans (D.below A8);exact λu f=>⟨k.below f k.lt,(ha2.below bz).below f,(hw2.md bz).md f,E5 (E5 a bz) f⟩
 have hz4:=k.lt;have HC2:=U0 hc2;have hzw:=a.size;have a7N:=(l.o _ (O4 _ _)).2.2.2.size;clear k D ha2 hc2 ho2 a hw2
 go_wp2_with(refine D9 (l.o _ (O4 _ _)).1 rfl 47 _ rfl (j:=0) (bsV b F) rfl rfl underlying47 rfl Y0 ?_)
 refine(c7 b F x z4 H.o W hsl HC2.o (HV.o.below (g.o _ (l.o _ (O4 _ _)).2.2.2).2.2) (l.o _ (O4 _ _)).2.1).mono ?_;rintro e U⟨⟨r2,hv2,hd⟩,a⟩;obtain rfl:r=r2:=kM VR.o hv2;obtain⟨n,rfl,hF⟩:=hDF.o _ _ _ hd
 go_upto_region 10 with(refine N7 rfl 51 _ _ rfl (j:=0) rfl rfl (I4 U (diV 0 bz) 51) A8 (X5 rfl) Y0 ?_;intro z5 k D)
 have bz5:=U6.trans (D.below A8);have B5:=U0 (E5 a bz5);have c:Hid (Cl z5 U.heap.size 51 (diV d (bsV b' n))):=k;have s:=U0 (hF.mv (.below bz5) (Y7 _));have hz5:=a.size;clear k D a bz5 hF hv2 hd
 go_wp2_with(first|(refine D9 c.o rfl 51 _ rfl (j:=0) (diV d (bsV b' n)) rfl rfl underlying51 rfl Y0 ?_)|(refine D9 (g.o _ (l.o _ B5.o).2.2.2).1.2 rfl 51 _ rfl (j:=0) (diV d (bsV b' J)) rfl rfl underlying51 rfl Y0 ?_))
 refine(c8 d b' n J z5 I.o s.o.at (g.o _ (l.o _ B5.o).2.2.2).2.1).mono ?_;rintro e S⟨rfl,a⟩;have C:=U0 (E5 B5.o a)
 replace c:=U0 (c.o.below a c.o.lt)
 replace s:=U0 (s.o.mv (.below a) (Y7 _))
 clear a B5
 go_upto_region 12 with fail
 have hd:Bw S S.drew:=(O4 _ _).drew;have HSX:Hid (∀u,Bw S u->Cl u w.heap.size 35 (bsV b q)/\Cl u N.heap.size 47 (bsV b F)):=λu f=>have h:=l.o u (E5 C.o f);⟨(g.o u h.2.2.2).1.1,h.1⟩
 refine mG HSX hd Y0 λhH=>?_;refine tq 0 hH ?_ (hv:=λu f=>N9 47 _ rfl (B:=N.heap.size) (j:=0) (cs:=bsV b F) rfl (λq v e=>by rw[Y8];exact(f.2.cell q).trans e) underlying47 rfl Y0)
 try simp only[qq]
 refine tq 1 hH ?_ (hv:=λu f=>N9 35 _ rfl (B:=w.heap.size) (j:=0) (cs:=bsV b q) rfl (λq v e=>by rw[Y8];exact(f.1.cell q).trans e) underlying35 rfl Y0)
 try simp only[qq]
 refine rq 2 λK O=>?_;go_simp;refine(c6 b q S.drew H.o (R.o.below (g.o _ (l.o _ (E5 C.o hd)).2.2.2).2.2)).mono ?_;rintro e w7⟨⟨q3,rfl,ha3,_⟩,a⟩;have b7:=hd.trans (a.mono A8);have A7:=U0 ha3;clear a ha3
 go_wp2_with fail
 refine G9 O (HSX.o _ b7) λhH=>?_;clear O K;refine rq 3 λK O=>?_;go_simp;refine(c9 b F q3 w7 H.o (l.o _ (E5 C.o b7)).2.1 A7.o).mono ?_;rintro e w8⟨rfl,a⟩;have P:=E5 b7 a;clear a
 go_wp2_with fail
 refine G9 O (HSX.o _ P) λhH=>?_;clear O K;refine y_ 4 ?_;refine wdn ?_
 replace C:=U0 (E5 C.o P)
 replace c:=U0 (c.o.below P c.o.lt)
 replace s:=U0 (s.o.mv (.below P) (Y7 _))
 clear P b7 hd HSX A7 hH
 go_upto_region 15 with fail
 go_wp2_with(refine D9 (l.o _ C.o).1 rfl 47 _ rfl (j:=0) (bsV b F) rfl rfl underlying47 rfl Y0 ?_)
 refine(m9 z.heap.size N.heap.size b F vr2 lr2 vn2 ln2 w8 hzw (by have:=C.o.size;omega) H.o (l.o _ C.o).2.2.1).mono ?_;rintro e w9⟨⟨rfl,Z,_⟩,m⟩;generalize bX b lr2 ln2=X at*;have hX0:decide (X<0)=false:=by simp;omega
 have BX:=U0 ((l.o _ C.o).2.2.2.trans (m.below A8 (l.o _ C.o).2.2.2.size))
 replace c:Hid (Cl w9 U.heap.size 51 (diV d (bsV b' n))):=(m.block _ c.o.lt (.inr (by omega))).trans c.o
 replace s:=U0 (s.o.mv (u:=w9) ⟨m.size,λp t hT _ hp=>m.block p (Ld hT) (.inr (by omega))⟩ (Y7 _))
 have s9:=X7 C.o.size m.size;clear m C Z l
 go_upto_region 16 with fail
 go_wp2_with(first|(refine Qx rfl 51 _ rfl rfl c.o underlying51 rfl Y0 ?_)|(refine Qx rfl 51 _ rfl rfl (g.o _ BX.o).1.2 underlying51 rfl Y0 ?_))
 refine(c8 d b' n J w9 I.o s.o.at (g.o _ BX.o).2.1).mono ?_;rintro e w10⟨rfl,a⟩
 replace BX:=U0 (E5 BX.o a)
 replace c:=U0 (c.o.below a c.o.lt)
 replace s:=U0 (s.o.mv (.below a) (Y7 _))
 have s10:=X7 s9 a.size;clear a s9
 go_upto_region 19 with fail
 go_wp2_with(refine D9 c.o rfl 51 _ rfl (j:=0) (diV d (bsV b' n)) rfl rfl underlying51 rfl Y0 ?_)
 obtain⟨vr,vn,hw,hap⟩:=a2g s.o I.o;refine(c11 z4.heap.size w10.heap.size d b' n vr (lsR b') vn (lsN b') w10 s10 (Y7 _) I.o hw).mono ?_;rintro e w11⟨⟨rfl,Z,hbm⟩,m⟩
 replace c:Hid (Cl w11 U.heap.size 51 (diV d (bsV b' n))):=(m.ty _ _ _ c.o (by decide)).trans c.o
 replace BX:=U0 (BX.o.trans (m.below a7N BX.o.size))
 have Q:=U0 (hbm hap);clear m hbm hap hw s
 go_upto_region 21 with fail
 go_wp2_with(refine D9 c.o rfl 51 _ rfl (j:=0) (diV d (bsV b' n)) rfl rfl underlying51 rfl Y0 ?_)
 refine(c12 d b' n vr (lsR b') vn (lsN b') w11 I.o Z (λu f=>Q.o.below f)).mono ?_;rintro e w12⟨rfl,a⟩
 replace BX:=U0 (E5 BX.o a)
 replace c:=U0 (c.o.below a c.o.lt)
 replace Q:=U0 (Q.o.below a)
 have HX9:=U0 (λu (h:Bw w12 u)=>c12 d b' n vr (lsR b') vn (lsN b') u I.o Z (λy hy=>Q.o.below (E5 h hy)));generalize bX b' (lsR b') (lsN b')=Y at*;clear a Q;have hp:decide (Y<0)=false:=by simp;omega
 go_upto_region 26 with fail
 go_wp2_with(refine D9 (g.o _ BX.o).1.1 rfl 35 _ rfl (j:=0) (bsV b q) rfl rfl underlying35 rfl Y0 ?_)
 refine(c6 b q w12 H.o (R.o.below (g.o _ BX.o).2.2)).mono ?_;rintro e w13⟨⟨q4,rfl,ha4,hc4,_⟩,a⟩
 replace BX:=U0 (E5 BX.o a)
 replace c:=U0 (c.o.below a c.o.lt)
 have L:=U0 a;clear a;have H7:=U0 (c7 b q4 x w13 H.o W hsl hc4 (HV.o.below (g.o _ BX.o).2.2) ha4);clear ha4 hc4
 go_wp2_with fail
 refine H7.o.mono ?_;rintro e w14⟨⟨r3,hv3,hd⟩,a⟩;obtain rfl:r=r3:=kM VR.o hv3;obtain⟨q9,rfl,hF⟩:=hDF.o _ _ _ hd;have A9:=U0 hF.at
 replace BX:=U0 (E5 BX.o a)
 replace c:=U0 (c.o.below a c.o.lt)
 replace L:=U0 (E5 L.o a)
 clear a hF hd hv3 H7
 go_upto_region 27 with(refine N7 rfl 51 _ _ rfl (j:=0) rfl rfl (I4 w14 (diV 0 bz) 51) A8 (X5 rfl) Y0 ?_;intro z9 k D)
 have a:=U6.trans (D.below A8)
 replace A9:=U0 (A9.o.below a)
 have C9:Hid (Cl z9 w14.heap.size 51 (diV d (bsV b' q9))):=k
 replace BX:=U0 (E5 BX.o a)
 replace c:=U0 (c.o.below a c.o.lt)
 replace L:=U0 (E5 L.o a)
 clear a k D
 go_wp2_with(first|(refine D9 C9.o rfl 51 _ rfl (j:=0) (diV d (bsV b' q9)) rfl rfl underlying51 rfl Y0 ?_)|(refine D9 (g.o _ BX.o).1.2 rfl 51 _ rfl (j:=0) (diV d (bsV b' J)) rfl rfl underlying51 rfl Y0 ?_))
 refine(c8 d b' q9 J z9 I.o A9.o (g.o _ BX.o).2.1).mono ?_;rintro e w15⟨rfl,a⟩
 replace BX:=U0 (E5 BX.o a)
 replace c:=U0 (c.o.below a c.o.lt)
 replace L:=U0 (E5 L.o a)
 clear a
 go_upto_region 30 with fail
 go_wp2_with(refine D9 c.o rfl 51 _ rfl (j:=0) (diV d (bsV b' n)) rfl rfl underlying51 rfl Y0 ?_)
 refine(HX9.o w15 L.o).mono ?_;rintro e w16⟨rfl,a⟩
 replace BX:=U0 (E5 BX.o a)
 clear a;go_wp2;go_ret;exact⟨rfl,(g.o _ BX.o).2.2⟩
